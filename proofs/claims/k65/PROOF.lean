import PyProof.Rows.All
import Wide.All
import OpenK.AllK
import Wide.FinOn
import HandS.ForMost
import HandS.ForExc
import HandS.Wide
import HandS.IsInst
import HandS.ExcIs
import HandS.WordsExc
import HandS.Property
import HandS.More
import HandS.Codes
import HandS.TupMul
import HandS.Strs
import HandS.SetFor
import HandS.TryOnly
import HandS.Star
import KE.GoesZip
import KE.GoesEnum
import KE.KItemsList
import HandS.Conv
import HandS.TryMany
import PySem.Challenge.RW_windowada_k65_arithmetic_of_instructions
set_option Elab.async false
set_option maxRecDepth 100000
set_option maxHeartbeats 4000000
set_option linter.all false
namespace My
open PySem L2
/-! ### helpers -/
def IsTupOf (o : Obj) (xs : List V) : Prop := o.cls = .type "tuple" ∧ ∃ (its : Array Value) (n : Nat), o.data = .seq its n ∧ its.size ≤ sizeLine ∧ Vals xs its.toList
theorem sqT_of {K : PySem.W.Frag} {H : Hp} {a : Addr} {o : Obj} {xs : List V} (h : K.lookup a = some o) (q : IsTupOf o xs) : SqT K H a xs := by
  obtain ⟨c, its, n, d, z, r⟩ := q
  exact .inr ⟨o, its, n, h, c, d, z, r⟩
theorem upd_self {H : Hp} {a : Addr} {o : HO} (h : H a = some o) : upd H a o = H := by
  funext b
  unfold upd
  split
  · rename_i e; rw [e, h]
  · rfl
theorem exm_of {K : PySem.W.Frag} {S C : Addr} (h1 : PySem.W.subIn K (.ref C) (.type "BaseException") = some true) (h2 : PySem.W.isClsIn K C = true) (h3 : PySem.W.typeIn K (.ref C) = some (.type "type")) {b : Bool} (h4 : PySem.W.subIn K (.ref S) (.ref C) = some b) :
    PySem.W.exmOne K (.ref S) (.ref C) = some b := by
  have e1 : (PySem.W.subIn K (.ref C) (.type "BaseException") == some true) = true := by rw [h1] <;> rfl
  have e2 : ((PySem.W.clsIn K C).isSome && PySem.W.typeIn K (.ref C) == some (.type "type")) = true := by
    have h2' : (PySem.W.clsIn K C).isSome = true := h2
    rw [h2', h3] <;> rfl
  show (if (PySem.W.subIn K (.ref C) (.type "BaseException") == some true) = true then (if ((PySem.W.clsIn K C).isSome && PySem.W.typeIn K (.ref C) == some (.type "type")) = true then PySem.W.subIn K (.ref S) (.ref C) else none) else none) = some b
  rw [if_pos e1, if_pos e2]
  exact h4
theorem sN {H H1 : Hp} {p : Addr} {o : HO} (s : Same H H1) (n : H1 p = none) : Same H (upd H1 p o) := fun b u e => by
  rw [upd_ne (ne_of_none (s b u e) n)]
  exact s b u e
theorem seqT {K : PySem.W.Frag} {H H' : Hp} {a : Addr} {xs : List V} (e : Same H H') (h : SqT K H a xs) : SqT K H' a xs := by
  rcases h with (h | ⟨o, h⟩) | h
  · exact .inl (.inl (e _ _ h))
  · exact .inl (.inr ⟨o, e _ _ h⟩)
  · exact .inr h
theorem ite3 {b : Bool} {A B : Prop} (h1 : b = true → A) (h2 : b = false → B) : if b = true then A else B := by
  cases b with
  | true => exact iteT (h1 rfl)
  | false => exact iteF (h2 rfl)
section
variable {X : Cx}
def rInS (K : PySem.W.Frag) : R2 := fun x y H Q => ∃ p xs, y = .ref p ∧ (SqL K H p xs ∨ SqT K H p xs) ∧ flatV x = true ∧ xs.all flatV = true ∧ Q (.bl (inV x xs)) H
def rNotInS (K : PySem.W.Frag) : R2 := fun x y H Q => ∃ p xs, y = .ref p ∧ (SqL K H p xs ∨ SqT K H p xs) ∧ flatV x = true ∧ xs.all flatV = true ∧ Q (.bl (!inV x xs)) H
theorem op_inS : OpR X (compareOp .In) (rInS X.K) := fun pins s σ H x y v u Q I rx ry h => op_in_seq pins s σ H x y v u Q I rx ry h
theorem op_notInS : OpR X (compareOp .NotIn) (rNotInS X.K) := fun pins s σ H x y v u Q I rx ry h => op_notIn_seq pins s σ H x y v u Q I rx ry h
end
theorem at0 {v : V} {r : List V} : atI (v :: r) 0 = some v := atI_nat (j := 0) rfl
theorem sUpd {H H1 : Hp} {p : Addr} {o : HO} (s : Same H H1) (n : H p = none) : Same H (upd H1 p o) := fun b u e => by
  rw [upd_ne (ne_of_none e n)]
  exact s b u e
/-! ### match over a value -/
structure PMC (X : Cx) (cases : List MatchCase) (t : V → TS) : Prop where
  run : ∀ (first : Bool) (pins : List (Addr × Obj)) (s : Shared) (σ : St) (H : Hp) (D : Ends) (x : V) (v : Value), Inv X pins σ H s → RelV x v → t x D σ H → wpAny (model X.prog X.w) X.A (matchCases cases X.env v first) (SP X pins D) X.xe s
def mNil : V → TS := fun _ D σ H => D.nx σ H
def mStr (z : Str) (t : TS) (u : V → TS) : V → TS := fun x D σ H => scal x (.str z) = true ∧ if decide (x = .str z) = true then t D σ H else u x D σ H
def tMatch (te : TE) (t : V → TS) : TS := fun D σ H => te σ H fun x H1 => t x D σ H1
section
variable {X : Cx}
theorem pmc_nil : PMC X [] mNil := ⟨fun _ _ _ σ H D x v I _ h => wpAny_matchCases_nil ⟨σ, H, I, h⟩⟩
theorem pmc_str {z : Str} {j : Nat} {p p2 : Pos} {body : List Stmt} {rest : List MatchCase} {t : TS} {u : V → TS} (hb : PSs X body t) (hr : PMC X rest u) : PMC X (⟨.MatchValue (.Constant (.str z) j p) p2, none, body⟩ :: rest) (mStr z t u) := by
  refine ⟨fun first pins s σ H D x v I r h => ?_⟩
  obtain ⟨hs, h⟩ := h
  refine wpAny_matchCases_cons (wpAny_matchPattern_Value ?_)
  have hz : PE X (.Constant (.str z) j p) (tC (.str z)) := pe_str
  refine thn (hz.run pins s σ H (fun y H1 => y = .str z ∧ H1 = H) I ⟨rfl, rfl⟩) fun w s1 ⟨y, H1, I1, r1, e1, e2⟩ => ?_
  subst e1; subst e2
  refine thn (op_eq pins s1 σ H1 x (.str z) v w (fun y H2 => y = .bl (decide (x = .str z)) ∧ H2 = H1) I1 r r1 ⟨hs, rfl, rfl⟩) fun c s2 ⟨y, H2, I2, r2, e1, e2⟩ => ?_
  subst e1; subst e2
  cases r2
  refine wpAny_truthy_bool ?_
  cases e : decide (x = V.str z) with
  | true =>
    rw [e] at h
    refine wpAny_assignInOrder_none ?_
    exact hb.run pins s2 σ H2 D I2 (by simpa using h)
  | false =>
    rw [e] at h
    exact hr.run false pins s2 σ H2 D x v I2 r (by simpa using h)
theorem ps_match {e : Expr} {cs : List MatchCase} {pos : Pos} {te : TE} {t : V → TS} (he : PE X e te) (hc : PMC X cs t) : PS X (.Match e cs pos) (tMatch te t) := by
  refine ⟨fun pins s σ H D I h => ?_⟩
  exact wpAny_Match (thn (he.run pins s σ H _ I h) fun v s1 ⟨x, H1, I1, r1, q1⟩ => hc.run true pins s1 σ H1 D x v I1 r1 q1)
/-- isinstance(e, c) in a suite, whatever the caught class is -/
def rIsEx (K : PySem.W.Frag) (a : Addr) (cls : Value) (d : Option Addr) : List V → Hp → VK → Prop := fun xs H Q => ∃ D, cls = .ref D ∧ d = none ∧ ExcC K D ∧ rIsE K D a xs H Q
theorem call_isEx {a : Addr} {cls : Value} {d : Option Addr} {oe : Obj} {pn : List (Addr × Obj)} (hz : Zc cls d oe) (hf : ∃ vs, oe.data = .fields vs) : CallR (X.suite a ((a, oe) :: pn)) (.builtin "isinstance") (rIsEx X.K a cls d) := by
  intro pins s σ H xs us Q I r h
  obtain ⟨D, rfl, rfl, C, h⟩ := h
  exact call_isE C hz hf pins s σ H xs us Q I r h
end
theorem kit_self {K : PySem.W.Frag} {D : Addr} : PySem.W.kitOne K (.ref D) (.ref D) = some true := by
  unfold PySem.W.kitOne
  rw [if_pos (by simp)]
theorem kit_no {K : PySem.W.Frag} {D C : Addr} (h : PySem.W.subIn K (.ref D) (.ref C) = some false) (hs : PySem.W.subIn K (.ref C) (.ref C) = some true) (h2 : PySem.W.isClsIn K C = true) (h3 : PySem.W.typeIn K (.ref C) = some (.type "type")) :
    PySem.W.kitOne K (.ref D) (.ref C) = some false := by
  have ne : ¬ ((Value.ref D == Value.ref C) = true) := fun e => by
    have e' : D = C := by simpa using e
    subst e'
    rw [h] at hs
    exact nomatch hs
  have e2 : ((PySem.W.clsIn K C).isSome && PySem.W.typeIn K (.ref C) == some (.type "type")) = true := by
    have h2' : (PySem.W.clsIn K C).isSome = true := h2
    rw [h2', h3] <;> rfl
  unfold PySem.W.kitOne
  rw [if_neg ne]
  show (if ((PySem.W.clsIn K C).isSome && PySem.W.typeIn K (.ref C) == some (.type "type")) = true then PySem.W.subIn K (.ref D) (.ref C) else none) = some false
  rw [if_pos e2]
  exact h
theorem kit_sub {K : PySem.W.Frag} {D C : Addr} {b : Bool} (h : PySem.W.subIn K (.ref D) (.ref C) = some b) (hs : b = false → PySem.W.subIn K (.ref C) (.ref C) = some true) (h2 : PySem.W.isClsIn K C = true) (h3 : PySem.W.typeIn K (.ref C) = some (.type "type")) :
    PySem.W.kitOne K (.ref D) (.ref C) = some b := by
  cases b with
  | false => exact kit_no h (hs rfl) h2 h3
  | true =>
    have e2 : ((PySem.W.clsIn K C).isSome && PySem.W.typeIn K (.ref C) == some (.type "type")) = true := by
      have h2' : (PySem.W.clsIn K C).isSome = true := h2
      rw [h2', h3] <;> rfl
    unfold PySem.W.kitOne
    split
    · rfl
    · show (if ((PySem.W.clsIn K C).isSome && PySem.W.typeIn K (.ref C) == some (.type "type")) = true then PySem.W.subIn K (.ref D) (.ref C) else none) = some true
      rw [if_pos e2]
      exact h
theorem kit_bt {K : PySem.W.Frag} {D : Addr} {n : String} {b : Bool} (hm : PySem.W.kitMeta n = true) (h : PySem.W.subIn K (.ref D) (.type n) = some b) : PySem.W.kitOne K (.ref D) (.type n) = some b := by
  unfold PySem.W.kitOne
  rw [if_neg (by simp)]
  show (if PySem.W.kitMeta n = true then PySem.W.subIn K (.ref D) (.type n) else none) = some b
  rw [if_pos hm]
  exact h
/-! ### a method that may raise, called in a try -/
section
variable {X : Cx} {CX : CXT} {k : Nat} {f C : Addr} {fd : FuncData} {ps : List Str} {sp : Sp} {E : St → XK} {m : Str} {pos apos : Pos} {e o : Expr} {es : List Expr} {ta : TE} {t : TA}
def tMethE (C : Addr) (m : Str) (sp : Sp) (E : St → XK) (ta : TE) (t : TA) : TE := fun σ H Q => ta σ H fun x H1 => ∃ a dx fs, x = .ref a ∧ H1 a = some (.ins C dx fs) ∧ fs.lookup m = none ∧ t σ H1 fun vs H2 => sp (x :: vs) H2 Q (E σ)
theorem pe_methE0 {pl : Sem Bool} (he : PE X o ta) (c : Cls X.K C) (hm : Meth X.K C m f) (F : FnOk X.prog X.w X.K X.mg X.base CX k f fd ps sp) (hr : Room k X.A) (hb : Binds X.K fd ps []) (hx : ∀ σ, PassesAt CX X σ (E σ))
    (ht : eval (.Call (.Attribute o m apos) [] [] pos) X.env = (do
      let ov ← eval o X.env
      standAt apos.atName
      let (f, first) ← holding [ov] (getMethod ov m pl)
      callWith pos f first (backTo pos (starEach [] X.env)) (backToKw pos (keywordEach [] X.env))) := by rfl) :
    PE X (.Call (.Attribute o m apos) [] [] pos) (tMethE C m sp E ta tNil) := by
  refine ⟨fun pins s σ H Q I h => ?_⟩
  refine PySem.W.methodCall_KW (pl := pl) (thn (he.run pins s σ H _ I h) fun u s1 ⟨x, H1, I1, rx, a, dx, fs, ex, ea, l, q⟩ => ?_) ht
  subst ex
  obtain rfl : u = Value.ref a := rx
  refine getmeth_ok I1 ea c hm l ?_
  exact PySem.W.callWith_K0 (first := [.ref a]) I1.kIn hm.kp (run_fnS (us := [.ref a]) (vs := [.ref a]) F hr hb (hx σ) I1 (.cons rfl .nil) q)
theorem pe_methE {pl : Sem Bool} (he : PE X o ta) (c : Cls X.K C) (hm : Meth X.K C m f) (F : FnOk X.prog X.w X.K X.mg X.base CX k f fd ps sp) (hr : Room k X.A) (hb : Binds X.K fd ps []) (hx : ∀ σ, PassesAt CX X σ (E σ)) (ha : PA X (e :: es) t)
    (hst : starEach (e :: es) X.env = (false, eval e X.env) :: starEach es X.env := by rfl) (hpl : (backTo pos (starEach es X.env)).any (·.1) = false := by rfl)
    (ht : eval (.Call (.Attribute o m apos) (e :: es) [] pos) X.env = (do
      let ov ← eval o X.env
      standAt apos.atName
      let (f, first) ← holding [ov] (getMethod ov m pl)
      callWith pos f first (backTo pos (starEach (e :: es) X.env)) (backToKw pos (keywordEach [] X.env))) := by rfl) :
    PE X (.Call (.Attribute o m apos) (e :: es) [] pos) (tMethE C m sp E ta t) := by
  refine ⟨fun pins s σ H Q I h => ?_⟩
  refine PySem.W.methodCall_KW (pl := pl) (thn (he.run pins s σ H _ I h) fun u s1 ⟨x, H1, I1, rx, a, dx, fs, ex, ea, l, q⟩ => ?_) ht
  subst ex
  obtain rfl : u = Value.ref a := rx
  refine getmeth_ok I1 ea c hm l ?_
  refine PySem.W.callWith_K (first := [.ref a]) (h₀ := X.base) I.ok.mod.kin hm.kp (thn (ha.run pos pins s1 σ H1 _ I1 q) fun us s2 ⟨vs, H2, I2, r, q2⟩ => ⟨I2.kIn, ?_⟩) hst hpl
  exact run_fnS (us := .ref a :: us) (vs := .ref a :: vs) F hr hb (hx σ) I2 (.cons rfl r) q2
end
def spNever : Sp := fun _ _ _ _ => False
theorem tyx_tup {K : PySem.W.Frag} {H : Hp} {a : Addr} {xs : List V} (h : SqT K H a xs) : TyX K H (.ref a) (.type "tuple") := by
  rcases h with (h | ⟨o, h⟩) | ⟨o, its, n, hk, hc, _⟩
  · exact .base (.tup h)
  · exact .fTuple h
  · exact .kTuple hk hc

def top (i : Nat) : Stmt := PySem.Challenge.pw_windowada_k65_arithmetic_of_instructions.main.body.getD i (.Pass ⟨0, 0, 0, 0⟩)
abbrev s_fits : Stmt := top 7
abbrev s_arithmetic : Stmt := top 8
abbrev s_compare : Stmt := top 9
abbrev s_word : Stmt := top 10
abbrev s_result : Stmt := top 11
abbrev s_quotient : Stmt := top 12
abbrev s_compute : Stmt := top 16
abbrev s_high_word : Stmt := top 17
abbrev s_low_word : Stmt := top 18
abbrev s_law_pick : Stmt := top 20
abbrev s_law_is_integer : Stmt := top 21
abbrev s_law_word : Stmt := top 22
abbrev s_law_quotient : Stmt := top 23
abbrev s_law_due : Stmt := top 24
abbrev s_law_compute : Stmt := top 25
abbrev s_law_halves : Stmt := top 26
abbrev s_law : Stmt := top 27
theorem sc_fits : FnScope ["number"] ["number"] (defScope s_fits) := ⟨rfl, rfl, rfl, by decide +kernel, rfl, by decide +kernel, by decide +kernel⟩
theorem sc_arithmetic : FnScope ["op", "left", "right"] ["op", "left", "right"] (defScope s_arithmetic) := ⟨rfl, rfl, rfl, by decide +kernel, rfl, by decide +kernel, by decide +kernel⟩
theorem sc_compare : FnScope ["op", "left", "right"] ["op", "left", "right"] (defScope s_compare) := ⟨rfl, rfl, rfl, by decide +kernel, rfl, by decide +kernel, by decide +kernel⟩
theorem sc_word : FnScope ["number"] ["number"] (defScope s_word) := ⟨rfl, rfl, rfl, by decide +kernel, rfl, by decide +kernel, by decide +kernel⟩
theorem sc_result : FnScope ["op", "left", "right"] ["op", "left", "right"] (defScope s_result) := ⟨rfl, rfl, rfl, by decide +kernel, rfl, by decide +kernel, by decide +kernel⟩
theorem sc_quotient : FnScope ["left", "right", "quotient"] ["left", "right"] (defScope s_quotient) := ⟨rfl, rfl, rfl, by decide +kernel, rfl, by decide +kernel, by decide +kernel⟩
theorem sc_compute : FnScope ["name", "left", "right", "sign"] ["name", "left", "right"] (defScope s_compute) := ⟨rfl, rfl, rfl, by decide +kernel, rfl, by decide +kernel, by decide +kernel⟩
theorem sc_high_word : FnScope ["n"] ["n"] (defScope s_high_word) := ⟨rfl, rfl, rfl, by decide +kernel, rfl, by decide +kernel, by decide +kernel⟩
theorem sc_low_word : FnScope ["word", "m"] ["word", "m"] (defScope s_low_word) := ⟨rfl, rfl, rfl, by decide +kernel, rfl, by decide +kernel, by decide +kernel⟩
theorem sc_law_pick : FnScope ["state", "limit", "digit", "cell", "mixed"] ["state", "limit"] (defScope s_law_pick) := ⟨rfl, rfl, rfl, by decide +kernel, rfl, by decide +kernel, by decide +kernel⟩
theorem sc_law_is_integer : FnScope ["actual"] ["actual"] (defScope s_law_is_integer) := ⟨rfl, rfl, rfl, by decide +kernel, rfl, by decide +kernel, by decide +kernel⟩
theorem sc_law_word : FnScope ["state", "choice"] ["state"] (defScope s_law_word) := ⟨rfl, rfl, rfl, by decide +kernel, rfl, by decide +kernel, by decide +kernel⟩
theorem sc_law_quotient : FnScope ["left", "right", "size"] ["left", "right"] (defScope s_law_quotient) := ⟨rfl, rfl, rfl, by decide +kernel, rfl, by decide +kernel, by decide +kernel⟩
theorem sc_law_due : FnScope ["name", "left", "right", "rest"] ["name", "left", "right"] (defScope s_law_due) := ⟨rfl, rfl, rfl, by decide +kernel, rfl, by decide +kernel, by decide +kernel⟩
theorem sc_law_compute : FnScope ["name", "left", "right", "zero", "due", "large", "actual", "e"] ["name", "left", "right"] (defScope s_law_compute) := ⟨rfl, rfl, rfl, by decide +kernel, rfl, by decide +kernel, by decide +kernel⟩
theorem sc_law_halves : FnScope ["state", "n", "m", "high", "word", "low", "whole"] ["state"] (defScope s_law_halves) := ⟨rfl, rfl, rfl, by decide +kernel, rfl, by decide +kernel, by decide +kernel⟩
theorem sc_law : FnScope ["script", "state", "names", "k", "name", "left", "right"] ["script"] (defScope s_law) := ⟨rfl, rfl, rfl, by decide +kernel, rfl, by decide +kernel, by decide +kernel⟩
structure Ad where
  f_fits : Addr
  d_fits : FuncData
  f_arithmetic : Addr
  d_arithmetic : FuncData
  f_compare : Addr
  d_compare : FuncData
  f_word : Addr
  d_word : FuncData
  f_result : Addr
  d_result : FuncData
  f_quotient : Addr
  d_quotient : FuncData
  f_compute : Addr
  d_compute : FuncData
  f_high_word : Addr
  d_high_word : FuncData
  f_low_word : Addr
  d_low_word : FuncData
  f_law_pick : Addr
  d_law_pick : FuncData
  f_law_is_integer : Addr
  d_law_is_integer : FuncData
  f_law_word : Addr
  d_law_word : FuncData
  f_law_quotient : Addr
  d_law_quotient : FuncData
  f_law_due : Addr
  d_law_due : FuncData
  f_law_compute : Addr
  d_law_compute : FuncData
  f_law_halves : Addr
  d_law_halves : FuncData
  f_law : Addr
  d_law : FuncData
  t_MAX : Tok
  t_MIN : Tok
  t_PART : Tok
  c_SIGNS : Addr
  C_AdaError : Addr
  C_Overflow : Addr
  C_DivisionByZero : Addr
structure Txt (w : World) (K : PySem.W.Frag) (mg : Str → Option Value) (a : Ad) : Prop where
  g_fits : mg "fits" = some (.ref a.f_fits)
  F_fits : Fun K "fits" "fits" s_fits a.f_fits a.d_fits
  k_fits : PySem.W.keepIn K (.ref a.f_fits) = true
  bd_fits : Binds K a.d_fits ["number"] []
  g_arithmetic : mg "arithmetic" = some (.ref a.f_arithmetic)
  F_arithmetic : Fun K "arithmetic" "arithmetic" s_arithmetic a.f_arithmetic a.d_arithmetic
  k_arithmetic : PySem.W.keepIn K (.ref a.f_arithmetic) = true
  bd_arithmetic : Binds K a.d_arithmetic ["op", "left", "right"] []
  g_compare : mg "compare" = some (.ref a.f_compare)
  F_compare : Fun K "compare" "compare" s_compare a.f_compare a.d_compare
  k_compare : PySem.W.keepIn K (.ref a.f_compare) = true
  bd_compare : Binds K a.d_compare ["op", "left", "right"] []
  g__word : mg "_word" = some (.ref a.f_word)
  F__word : Fun K "_word" "_word" s_word a.f_word a.d_word
  k__word : PySem.W.keepIn K (.ref a.f_word) = true
  bd__word : Binds K a.d_word ["number"] []
  g__result : mg "_result" = some (.ref a.f_result)
  F__result : Fun K "_result" "_result" s_result a.f_result a.d_result
  k__result : PySem.W.keepIn K (.ref a.f_result) = true
  bd__result : Binds K a.d_result ["op", "left", "right"] []
  g__quotient : mg "_quotient" = some (.ref a.f_quotient)
  F__quotient : Fun K "_quotient" "_quotient" s_quotient a.f_quotient a.d_quotient
  k__quotient : PySem.W.keepIn K (.ref a.f_quotient) = true
  bd__quotient : Binds K a.d_quotient ["left", "right"] []
  g_compute : mg "compute" = some (.ref a.f_compute)
  F_compute : Fun K "compute" "compute" s_compute a.f_compute a.d_compute
  k_compute : PySem.W.keepIn K (.ref a.f_compute) = true
  bd_compute : Binds K a.d_compute ["name", "left", "right"] []
  g_high_word : mg "high_word" = some (.ref a.f_high_word)
  F_high_word : Fun K "high_word" "high_word" s_high_word a.f_high_word a.d_high_word
  k_high_word : PySem.W.keepIn K (.ref a.f_high_word) = true
  bd_high_word : Binds K a.d_high_word ["n"] []
  g_low_word : mg "low_word" = some (.ref a.f_low_word)
  F_low_word : Fun K "low_word" "low_word" s_low_word a.f_low_word a.d_low_word
  k_low_word : PySem.W.keepIn K (.ref a.f_low_word) = true
  bd_low_word : Binds K a.d_low_word ["word", "m"] []
  g__law_pick : mg "_law_pick" = some (.ref a.f_law_pick)
  F__law_pick : Fun K "_law_pick" "_law_pick" s_law_pick a.f_law_pick a.d_law_pick
  k__law_pick : PySem.W.keepIn K (.ref a.f_law_pick) = true
  bd__law_pick : Binds K a.d_law_pick ["state", "limit"] []
  g__law_is_integer : mg "_law_is_integer" = some (.ref a.f_law_is_integer)
  F__law_is_integer : Fun K "_law_is_integer" "_law_is_integer" s_law_is_integer a.f_law_is_integer a.d_law_is_integer
  k__law_is_integer : PySem.W.keepIn K (.ref a.f_law_is_integer) = true
  bd__law_is_integer : Binds K a.d_law_is_integer ["actual"] []
  g__law_word : mg "_law_word" = some (.ref a.f_law_word)
  F__law_word : Fun K "_law_word" "_law_word" s_law_word a.f_law_word a.d_law_word
  k__law_word : PySem.W.keepIn K (.ref a.f_law_word) = true
  bd__law_word : Binds K a.d_law_word ["state"] []
  g__law_quotient : mg "_law_quotient" = some (.ref a.f_law_quotient)
  F__law_quotient : Fun K "_law_quotient" "_law_quotient" s_law_quotient a.f_law_quotient a.d_law_quotient
  k__law_quotient : PySem.W.keepIn K (.ref a.f_law_quotient) = true
  bd__law_quotient : Binds K a.d_law_quotient ["left", "right"] []
  g__law_due : mg "_law_due" = some (.ref a.f_law_due)
  F__law_due : Fun K "_law_due" "_law_due" s_law_due a.f_law_due a.d_law_due
  k__law_due : PySem.W.keepIn K (.ref a.f_law_due) = true
  bd__law_due : Binds K a.d_law_due ["name", "left", "right"] []
  g__law_compute : mg "_law_compute" = some (.ref a.f_law_compute)
  F__law_compute : Fun K "_law_compute" "_law_compute" s_law_compute a.f_law_compute a.d_law_compute
  k__law_compute : PySem.W.keepIn K (.ref a.f_law_compute) = true
  bd__law_compute : Binds K a.d_law_compute ["name", "left", "right"] []
  g__law_halves : mg "_law_halves" = some (.ref a.f_law_halves)
  F__law_halves : Fun K "_law_halves" "_law_halves" s_law_halves a.f_law_halves a.d_law_halves
  k__law_halves : PySem.W.keepIn K (.ref a.f_law_halves) = true
  bd__law_halves : Binds K a.d_law_halves ["state"] []
  g_law : mg "law" = some (.ref a.f_law)
  F_law : Fun K "law" "law" s_law a.f_law a.d_law
  k_law : PySem.W.keepIn K (.ref a.f_law) = true
  bd_law : Binds K a.d_law ["script"] []
  g_MAX : mg "MAX" = some (.int (2147483647) a.t_MAX)
  g_MIN : mg "MIN" = some (.int (-2147483648) a.t_MIN)
  g_PART : mg "PART" = some (.int (2048) a.t_PART)
  g_SIGNS : mg "SIGNS" = some (.ref a.c_SIGNS)
  kd_SIGNS_add : KDct K w a.c_SIGNS "add" (.str "+")
  kd_SIGNS_sub : KDct K w a.c_SIGNS "sub" (.str "-")
  kd_SIGNS_mul : KDct K w a.c_SIGNS "mul" (.str "*")
  kd_SIGNS_div : KDct K w a.c_SIGNS "div" (.str "/")
  kd_SIGNS_mod : KDct K w a.c_SIGNS "mod" (.str "mod")
  kd_SIGNS_rem : KDct K w a.c_SIGNS "rem" (.str "rem")
  kd_SIGNS_less : KDct K w a.c_SIGNS "less" (.str "<")
  kd_SIGNS_equal : KDct K w a.c_SIGNS "equal" (.str "=")
  b_abs : mg "abs" = none
  b_bool : mg "bool" = none
  b_int : mg "int" = none
  b_isinstance : mg "isinstance" = none
  b_len : mg "len" = none
  b_range : mg "range" = none
  g_AdaError : mg "AdaError" = some (.ref a.C_AdaError)
  x_AdaError : PySem.W.excIn K a.C_AdaError [.type "ValueError", .type "Exception", .type "BaseException", .type "object"] "ValueError.__new__" = true
  kC_AdaError : PySem.W.keepIn K (.ref a.C_AdaError) = true
  s1_AdaError : PySem.W.subIn K (.ref a.C_AdaError) (.type "BaseException") = some true
  ty_AdaError : PySem.W.typeIn K (.ref a.C_AdaError) = some (.type "type")
  ic_AdaError : PySem.W.isClsIn K a.C_AdaError = true
  g_Overflow : mg "Overflow" = some (.ref a.C_Overflow)
  x_Overflow : PySem.W.excIn K a.C_Overflow [.type "ValueError", .type "Exception", .type "BaseException", .type "object"] "ValueError.__new__" = true
  kC_Overflow : PySem.W.keepIn K (.ref a.C_Overflow) = true
  s1_Overflow : PySem.W.subIn K (.ref a.C_Overflow) (.type "BaseException") = some true
  ty_Overflow : PySem.W.typeIn K (.ref a.C_Overflow) = some (.type "type")
  ic_Overflow : PySem.W.isClsIn K a.C_Overflow = true
  ec_Overflow : ExcC K a.C_Overflow
  g_DivisionByZero : mg "DivisionByZero" = some (.ref a.C_DivisionByZero)
  x_DivisionByZero : PySem.W.excIn K a.C_DivisionByZero [.type "ValueError", .type "Exception", .type "BaseException", .type "object"] "ValueError.__new__" = true
  kC_DivisionByZero : PySem.W.keepIn K (.ref a.C_DivisionByZero) = true
  s1_DivisionByZero : PySem.W.subIn K (.ref a.C_DivisionByZero) (.type "BaseException") = some true
  ty_DivisionByZero : PySem.W.typeIn K (.ref a.C_DivisionByZero) = some (.type "type")
  ic_DivisionByZero : PySem.W.isClsIn K a.C_DivisionByZero = true
  ec_DivisionByZero : ExcC K a.C_DivisionByZero
  e_Overflow_Overflow : PySem.W.exmOne K (.ref a.C_Overflow) (.ref a.C_Overflow) = some true
  e_DivisionByZero_Overflow : PySem.W.exmOne K (.ref a.C_DivisionByZero) (.ref a.C_Overflow) = some false
  e_DivisionByZero_DivisionByZero : PySem.W.exmOne K (.ref a.C_DivisionByZero) (.ref a.C_DivisionByZero) = some true
  i_Overflow_DivisionByZero : PySem.W.kitOne K (.ref a.C_Overflow) (.ref a.C_DivisionByZero) = some false
  i_Overflow_AdaError : PySem.W.kitOne K (.ref a.C_Overflow) (.ref a.C_AdaError) = some true
  i_DivisionByZero_Overflow : PySem.W.kitOne K (.ref a.C_DivisionByZero) (.ref a.C_Overflow) = some false
  i_DivisionByZero_AdaError : PySem.W.kitOne K (.ref a.C_DivisionByZero) (.ref a.C_AdaError) = some true
/-! ### a try with several clauses, each perhaps with a name -/
inductive HdA (X : Cx) : List ExceptHandler → List (Value × Option Nat × (Addr → Value → Option Addr → TS)) → Prop
  | nil : HdA X [] []
  | bare {x : Str} {c : Value} {ts : Addr → Value → Option Addr → TS} {b : Stmt} {bs : List Stmt} {p q : Pos} {hds : List ExceptHandler} {l : List (Value × Option Nat × (Addr → Value → Option Addr → TS))} (hc : Names X x c)
      (hs : ∀ (a : Addr) (o : Obj) (cl : Value) (d : Option Addr) (m : List (Addr × Obj)), Zc cl d o → (∃ us, o.data = .fields us) → PSs (X.suite a ((a, o) :: m)) (b :: bs) (ts a cl d)) (r : HdA X hds l) :
      HdA X (.ExceptHandler (some (.Name x p)) none (b :: bs) q :: hds) ((c, none, ts) :: l)
  | named {x n : Str} {i : Nat} {c : Value} {ts : Addr → Value → Option Addr → TS} {b : Stmt} {bs : List Stmt} {p q : Pos} {hds : List ExceptHandler} {l : List (Value × Option Nat × (Addr → Value → Option Addr → TS))} (hc : Names X x c)
      (nd : X.N.Nodup) (hi : X.N[i]? = some n) (hl : X.env.kindOf n = some .local)
      (hs : ∀ (a : Addr) (o : Obj) (cl : Value) (d : Option Addr) (m : List (Addr × Obj)), Zc cl d o → (∃ us, o.data = .fields us) → PSs (X.suite a ((a, o) :: m)) (b :: bs) (ts a cl d)) (r : HdA X hds l) :
      HdA X (.ExceptHandler (some (.Name x p)) (some n) (b :: bs) q :: hds) ((c, some i, ts) :: l)
def endA (i : Option Nat) (σ : St) : St := match i with
  | some j => σ.set j none
  | none => σ
def begA (i : Option Nat) (a : Addr) (σ : St) : St := match i with
  | some j => σ.set j (some (.ref a))
  | none => σ
def outA (i : Option Nat) (D : Ends) : Ends := { nx := fun σ H => D.nx (endA i σ) H, rt := D.rt, bk := fun σ H => D.bk (endA i σ) H, ct := fun σ H => D.ct (endA i σ) H }
/-- what the clauses wish, one behind the other -/
def wClauses (K : PySem.W.Frag) (Wo : WX) (D : Ends) : List (Value × Option Nat × (Addr → Value → Option Addr → TS)) → WX
  | [] => Wo
  | (c, i, ts) :: r => fun cl d σ H => ∃ b, PySem.W.exmOne K cl c = some b ∧ (b = true → ∀ a, H a = none → ts a cl d (outA i D) (begA i a σ) H) ∧ (b = false → wClauses K Wo D r cl d σ H)
section
variable {X : Cx} {body : List Stmt} {h0 : ExceptHandler} {hds : List ExceptHandler} {l : List (Value × Option Nat × (Addr → Value → Option Addr → TS))} {pos : Pos} {tb : WX → TS} {Wo : WX}
theorem ps_tryA (st : X.stack = X.env :: X.outer) (fr : X.env.frame = some X.env.locals) (tk : Takes X Wo)
    (hb : ∀ (W : WX) (pn : List (Addr × Obj)) (xe : Value → Shared → Prop), Takes (X.tr pn xe) W → PassesOwn (model X.prog X.w) X.A X.env xe → PSs (X.tr pn xe) body (tb W))
    (hh : HdA X (h0 :: hds) l) : PS X (.Try body (h0 :: hds) [] [] pos) (fun D σ H => tb (wClauses X.K Wo D l) D σ H) := by
  refine ⟨fun pins s σ H D I hrd => ?_⟩
  have kk := I.ok
  have frs0 : X.A.frames = some (X.env :: X.outer) := by rw [kk.frames, st]
  refine wpAny_Try_except (wpAny_mono ((hb (wClauses X.K Wo D l) (X.pn ++ pins) (fun u z => wpAny (model X.prog X.w) X.A (noteFrame u X.env) (fun _ z2 => wpAny (model X.prog X.w) X.A (setFlight u none) (fun _ z3 => wpAny (model X.prog X.w) X.A (handleBy u X.env (h0 :: hds)) (SP X pins D) X.xe z3) X.xe z2) X.xe z) (fun u s' xx => ?_) PassesOwn.looking).run [] s σ H D (I.toTry _) hrd) (fun f s1 hsp => ?_) (fun _ _ he => he))
  · obtain ⟨a, B, sI, pins', σ', H', cl, d, rfl, J0, nb, up, sky, na, osq, ag, w⟩ := xx
    have J : Inv X pins σ' H' sI := J0.ofTry kk
    rw [show X.stack = X.env :: X.outer from st] at sky
    show wpAny (model X.prog X.w) X.A (noteFrame (.ref a) X.env) _ _ _
    refine Sky.land Zc.steady frs0 fr sky fun h3 fl3 up3 => ?_
    have J3 : Inv X pins σ' H' { s' with heap := h3 } := J.landed nb fl3.1 (up.trans up3) osq ag
    obtain ⟨o3, v3, g3, z3, d3⟩ := fl3.there
    have off : a ∉ frs (X.env :: X.outer) := fun hm => by
      obtain ⟨_, o', e', hno⟩ := fl3.2.2.1.mem hm
      rw [g3] at e'; cases e'
      exact hno _ d3
    have offL : a ≠ X.env.locals := fun z => off (List.mem_filterMap.mpr ⟨X.env, List.mem_cons_self, by rw [fr, z]⟩)
    have offF : a ∉ X.fs := fun hm => by
      obtain ⟨e, he, q⟩ := List.mem_filterMap.mp hm
      exact off (List.mem_filterMap.mpr ⟨e, List.mem_cons_of_mem _ he, q⟩)
    have S3 := J3.suite g3 d3 na offL offF
    have LT : PySem.W.Looks (model X.prog X.w) h3 (typeOf (.ref a)) cl := fun _ _ _ _ k q => wpAny_typeOf_ref (k _ _ g3) (by rw [z3.1]; exact q)
    have ask : ∀ {x : Str} {c : Value} {np : Pos} {Q E : Value → Shared → Prop}, Names X x c → Q c { s' with heap := h3 } → wpAny (model X.prog X.w) (X.A.mark (some (.ref a))) (eval (.Name x np) X.env) Q E { s' with heap := h3 } := fun {x c np Q E} hc q => by
      obtain ⟨hg, hdbg, hm | ⟨hm, hv, hnn⟩⟩ := hc
      · exact ld_glob (X := X.suite a ((a, o3) :: (X.pn ++ pins))) S3 hg hm q hdbg
      · exact ld_blt (X := X.suite a ((a, o3) :: (X.pn ++ pins))) S3 hg hm hv q hnn hdbg
    have go : ∀ {hs2 : List ExceptHandler} {l2 : List (Value × Option Nat × (Addr → Value → Option Addr → TS))}, HdA X hs2 l2 → wClauses X.K Wo D l2 cl d σ' H' → wpAny (model X.prog X.w) X.A (handleBy (.ref a) X.env hs2) (SP X pins D) X.xe { s' with heap := h3 } := by
      intro hs2 l2 hk
      induction hk with
      | nil =>
        intro w
        refine wpAny_handleBy_nil ?_
        obtain ⟨_, _, _, oe, vs, T, oT, ts', he, hz, hd, h1, hr⟩ := id fl3
        unfold PySem.passOn
        refine wpAny_bind (wpAny_field he hd h1 ?_)
        rw [if_neg (show ¬ ((Value.ref T == Value.none) = true) by simp)]
        have last : wpAny (model X.prog X.w) X.A (setFlight (.ref a) X.env.frame) (fun _ z4 => wpAny (model X.prog X.w) X.A (throw (.ref a) : Sem Flow) (SP X pins D) X.xe z4) X.xe { s' with heap := h3 } := by
          rw [fr]
          refine HandSPX.setFlight_upZ fl3 fun h4 hh4 up4 => wpAny_throw (tk _ _ ?_)
          exact ⟨a, B, sI, pins, σ', H', cl, d, rfl, J, nb, (up.trans up3).trans up4, .inr (.inr (by rw [st]; exact hh4)), na, osq, ag, w⟩
        first
          | exact wpAny_bind (wpAny_pure (wpAny_bind last))
          | exact wpAny_bind last
      | @bare x c ts b bs p q hds2 l2 hc hsu r ih =>
        intro w
        obtain ⟨t, ht, yes, no⟩ := w
        refine wpAny_handleBy_cons (codeAny_handlers_test (ask hc ((PySem.W.exm_one (M := model X.prog X.w) (J3.kIn) LT ht).here ?_))) (by intro q; cases q)
        cases t with
        | true =>
          refine codeAny_handlers_suite (HandSPX.lands_againZ fl3 fun h4 fl4 up4 => ?_)
          have J4 : Inv X pins σ' H' { s' with heap := h4 } := J.landed nb fl4.1 ((up.trans up3).trans up4) osq ag
          obtain ⟨o4, v4, g4, z4, d4⟩ := fl4.there
          refine wpAny_mono ((hsu a o4 cl d (X.pn ++ pins) z4 ⟨_, d4⟩).run [] _ _ H' _ (J4.suite g4 d4 na offL offF) (yes rfl a na)) (fun f s6 hsp => ?_) (fun _ _ z => z.elim)
          cases f with
          | ret u => obtain ⟨v6, σ6, H6, S6, r6, q6⟩ := hsp; exact ⟨_, _, _, S6.unsuite kk, r6, q6⟩
          | _ => obtain ⟨σ6, H6, S6, q6⟩ := hsp; exact ⟨_, _, S6.unsuite kk, q6⟩
        | false =>
          show wpAny _ X.A (handleBy (.ref a) X.env hds2) _ _ _
          exact ih (no rfl)
      | @named x n i c ts b bs p q hds2 l2 hc nd hi hl hsu r ih =>
        intro w
        obtain ⟨t, ht, yes, no⟩ := w
        refine wpAny_handleBy_cons (codeAny_handlers_test (ask hc ((PySem.W.exm_one (M := model X.prog X.w) (J3.kIn) LT ht).here ?_))) (by intro q; cases q)
        cases t with
        | true =>
          refine codeAny_handlers_suite_as (HandSPX.lands_againZ fl3 fun h4 fl4 up4 => ?_)
          have J4 : Inv X pins σ' H' { s' with heap := h4 } := J.landed nb fl4.1 ((up.trans up3).trans up4) osq ag
          obtain ⟨o4, v4, g4, z4, d4⟩ := fl4.there
          refine store_ok (X := X.suite a ((a, o4) :: (X.pn ++ pins))) (v := .ref a) (J4.suite g4 d4 na offL offF) nd hi (.inl hl) rfl (fun s5 S5 => ?_) (.inr hl)
          refine wpAny_mono ((hsu a o4 cl d (X.pn ++ pins) z4 ⟨_, d4⟩).run [] s5 _ H' _ S5 (yes rfl a na)) (fun f s6 hsp => ?_) (fun _ _ z => z.elim)
          cases f with
          | ret u => obtain ⟨v6, σ6, H6, S6, r6, q6⟩ := hsp; exact gone_ok (S6.unsuite kk) nd hi hl fun s7 J7 => ⟨_, _, _, J7, r6, q6⟩
          | _ => obtain ⟨σ6, H6, S6, q6⟩ := hsp; exact gone_ok (S6.unsuite kk) nd hi hl fun s7 J7 => ⟨_, _, J7, q6⟩
        | false =>
          show wpAny _ X.A (handleBy (.ref a) X.env hds2) _ _ _
          exact ih (no rfl)
    exact go hh w
  · cases f with
    | next => obtain ⟨σ', H', J0, q⟩ := hsp; exact wpAny_execs_nil ⟨σ', H', J0.ofTry kk, q⟩
    | ret u => obtain ⟨v, σ', H', J0, r, q⟩ := hsp; exact ⟨v, σ', H', J0.ofTry kk, r, q⟩
    | _ => obtain ⟨σ', H', J0, q⟩ := hsp; exact ⟨σ', H', J0.ofTry kk, q⟩
end

/-! ### heaps that turn at some places alone -/
def Frm (S : List Addr) (H H' : Hp) : Prop := ∀ b o, H b = some o → b ∉ S → H' b = some o
theorem Frm.refl {S : List Addr} {H : Hp} : Frm S H H := fun _ _ e _ => e
theorem Frm.trans {S : List Addr} {H H1 H2 : Hp} (x : Frm S H H1) (y : Frm S H1 H2) : Frm S H H2 := fun b o e n => y b o (x b o e n) n
theorem Frm.new {S : List Addr} {H H1 : Hp} {p : Addr} {o : HO} (x : Frm S H H1) (n : H1 p = none) : Frm S H (upd H1 p o) := fun b u e m => by
  rw [upd_ne (ne_of_none (x b u e m) n)]; exact x b u e m
theorem Frm.put {S : List Addr} {H H1 : Hp} {p : Addr} {o : HO} (x : Frm S H H1) (m : p ∈ S) : Frm S H (upd H1 p o) := fun b u e h => by
  rw [upd_ne (fun z => h (by rw [z]; exact m))]; exact x b u e h
theorem Frm.mono {S S' : List Addr} {H H1 : Hp} (x : Frm S H H1) (h : ∀ b ∈ S, b ∈ S') : Frm S' H H1 := fun b u e n => x b u e fun z => n (h b z)
theorem Frm.of {S : List Addr} {H H1 : Hp} (x : Same H H1) : Frm S H H1 := fun b u e _ => x b u e
theorem Frm.same {H H1 : Hp} (x : Frm [] H H1) : Same H H1 := fun b u e => x b u e (by simp)
/-- a list that is to be read, whatever turns at b -/
def Apt (K : PySem.W.Frag) (sa : Addr) (xs : List V) (b : Addr) : Prop := b = sa → ∀ H', SqL K H' sa xs
theorem apt_new {K : PySem.W.Frag} {H : Hp} {sa b : Addr} {xs : List V} (h : SqL K H sa xs) (n : H b = none) : Apt K sa xs b := fun e H' => by
  subst e
  rcases h with (h | ⟨o, h⟩) | h
  · rw [n] at h; cases h
  · rw [n] at h; cases h
  · exact .inr h
theorem sq_frm {K : PySem.W.Frag} {S : List Addr} {H H' : Hp} {sa : Addr} {xs : List V} (h : SqL K H sa xs) (f : Frm S H H') (a : ∀ b ∈ S, Apt K sa xs b) : SqL K H' sa xs := by
  by_cases c : sa ∈ S
  · exact a sa c rfl H'
  · rcases h with (h | ⟨o, h⟩) | h
    · exact .inl (.inl (f _ _ h c))
    · exact .inl (.inr ⟨o, f _ _ h c⟩)
    · exact .inr h
/-! ### the draws -/
structure StP (K : PySem.W.Frag) (H : Hp) (st sa : Addr) (ns : List Int) : Prop where
  at' : ∃ i d n : Int, 0 ≤ i ∧ H st = some (.lst [.ref sa, .int i, .int d, .int n])
  sq : SqL K H sa (ns.map V.int)
  ap : Apt K sa (ns.map V.int) st
theorem StP.frm {K : PySem.W.Frag} {S : List Addr} {H H' : Hp} {st sa : Addr} {ns : List Int} (h : StP K H st sa ns) (f : Frm S H H') (n : st ∉ S) (a : ∀ b ∈ S, Apt K sa (ns.map V.int) b) : StP K H' st sa ns := by
  obtain ⟨i, d, k, z, e⟩ := h.at'
  exact ⟨⟨i, d, k, z, f _ _ e n⟩, sq_frm h.sq f a, h.ap⟩
theorem StP.same {K : PySem.W.Frag} {H H' : Hp} {st sa : Addr} {ns : List Int} (h : StP K H st sa ns) (f : Same H H') : StP K H' st sa ns := h.frm (S := []) (fun b o e _ => f b o e) (by simp) (by simp)
theorem StP.put {K : PySem.W.Frag} {H : Hp} {st sa : Addr} {ns : List Int} {i d n : Int} (h : StP K H st sa ns) (z : 0 ≤ i) : StP K (upd H st (.lst [.ref sa, .int i, .int d, .int n])) st sa ns :=
  ⟨⟨i, d, n, z, upd_same⟩, sq_frm h.sq (Frm.put (S := [st]) Frm.refl (by simp)) (fun b hb => by rw [List.mem_singleton.mp hb]; exact h.ap), h.ap⟩
def spPick (K : PySem.W.Frag) : Sp := fun vs H Q _ => ∃ (st sa : Addr) (ns : List Int) (m : Int), vs = [.ref st, .int m] ∧ StP K H st sa ns ∧ 0 < m ∧ m < 2 ^ 62 ∧ ∀ (v : Int) (H' : Hp), 0 ≤ v → v < m → StP K H' st sa ns → Frm [st] H H' → Q (.int v) H'
section
variable {P : Program} {w : World} {K : PySem.W.Frag} {mg : Str → Option Value} {base : Heap} {a : Ad}
theorem ok_law_pick (T : Txt w K mg a) : FnOk P w K mg base CX0 1 a.f_law_pick a.d_law_pick ["state", "limit"] (spPick K) := by
  refine T.F__law_pick.ok sc_law_pick (fun vs H Q E h => ?_) (fun cdv A outer s H vs Q E hr h => ?_)
  · obtain ⟨_, _, _, _, rfl, _⟩ := h; rfl
  · obtain ⟨st, sa, ns, m, rfl, S, hm, hm2, q⟩ := h
    have hdv : ∀ i, CDivW i m := fun i => wide_div (b := 62) hm (by omega) (by decide) (by decide)
    have hdv7 : ∀ i, CDivW i 7 := fun i => wide_div (b := 62) (by decide) (by decide) (by decide) (by decide)
    obtain ⟨i, d, n, i0, h1⟩ := S.at'
    refine ⟨_, (pss_cons (ps_asg (pe_op op_add (pe_ix ix_list (pv 0) pe_int (fun _ _ => rfl)) pe_int) (pg_sub (pv 0) pe_int set_list))
      (pss_cons (ps_if (pt_cmpR op_gt (pe_ix ix_list (pv 0) pe_int (fun _ _ => rfl)) pe_int (nomark _)) (pss_cons (ps_set (i := 2) sc_law_pick.nd rfl (Or.inl rfl) (pe_op op_mod (pe_callTy call_int1 (by rfl) T.b_int (by decide +kernel) (pa_cons (pe_ix ix_list (pv 0) pe_int (fun _ _ => rfl)) pa_nil)) (pv 1)))
      (pss_cons (ps_asg (pe_op op_fdivW (pe_ix ix_list (pv 0) pe_int (fun _ _ => rfl)) (pv 1)) (pg_sub (pv 0) pe_int set_list))
      (pss_one (ps_ret (pv 2))))) pss_nil)
      (pss_cons (ps_set (i := 3) sc_law_pick.nd rfl (Or.inl rfl) pe_int)
      (C8.pss_cut (ps_if (pt_cmpR op_lt (pe_ix ix_list (pv 0) pe_int (fun _ _ => rfl)) (pe_callB call_len_seq (by rfl) T.b_len (by decide +kernel) (pa_cons (pe_ix ix_list (pv 0) pe_int (fun _ _ => rfl)) pa_nil)) (nomark _)) (pss_one (ps_set (i := 3) sc_law_pick.nd rfl (Or.inl rfl) (pe_ix ix_list (pe_ix ix_list (pv 0) pe_int (fun _ _ => rfl)) (pe_ix ix_list (pv 0) pe_int (fun _ _ => rfl)) (fun _ _ => rfl)))) pss_nil)
      (pss_cons (ps_asg (pe_op op_add (pe_ix ix_list (pv 0) pe_int (fun _ _ => rfl)) pe_int) (pg_sub (pv 0) pe_int set_list))
      (pss_cons (ps_if (pt_cmpR op_ge (pv 3) (pe_op op_pow pe_int pe_int) (nomark _)) (pss_cons (ps_asg (pe_op op_fdivW (pv 3) (pv 1)) (pg_sub (pv 0) pe_int set_list))
      (pss_one (ps_ret (pe_op op_mod (pe_callTy call_int1 (by rfl) T.b_int (by decide +kernel) (pa_cons (pv 3) pa_nil)) (pv 1))))) pss_nil)
      (pss_cons (ps_set (i := 4) sc_law_pick.nd rfl (Or.inl rfl) (pe_op op_mod (pe_callTy call_int1 (by rfl) T.b_int (by decide +kernel) (pa_cons (pe_op op_add (pe_op op_mul (pe_op op_mod (pe_callTy call_int1 (by rfl) T.b_int (by decide +kernel) (pa_cons (pe_op op_add (pe_op op_add (pe_op op_mul (pv 3) pe_int) (pe_op op_mul (pe_ix ix_list (pv 0) pe_int (fun _ _ => rfl)) pe_int)) pe_int) pa_nil)) pe_int) pe_int) (pe_ix ix_list (pv 0) pe_int (fun _ _ => rfl))) pa_nil)) pe_int))
      (pss_one (ps_ret (pe_op op_mod (pe_callTy call_int1 (by rfl) T.b_int (by decide +kernel) (pa_cons (pe_op op_fdivW (pv 4) pe_int) pa_nil)) (pv 1))))))))))), ?_⟩
    refine ⟨_, rfl, _, _, _, _, rfl, rfl, SqL.of h1, rfl, _, _, rfl, rfl, _, rfl, _, _, _, _, rfl, rfl, h1, rfl, ?_⟩
    have S1 := S.put (d := d) (n := n + 1) i0
    have f1 : Frm [st] H (upd H st (.lst [.ref sa, .int i, .int d, .int (n + 1)])) := Frm.put Frm.refl (by simp)
    have e1 : upd H st (.lst [.ref sa, .int i, .int d, .int (n + 1)]) st = some (.lst [.ref sa, .int i, .int d, .int (n + 1)]) := upd_same
    have nu : ∀ {H2 : Hp} {o : HO}, Frm [st] H H2 → Frm [st] H (upd H2 st o) := fun f => f.put (by simp)
    refine ⟨_, rfl, _, _, _, _, rfl, rfl, SqL.of upd_same, rfl, _, _, rfl, rfl, _, rfl, ite3 (fun c1 => ?_) (fun c1 => ?_)⟩
    · refine ⟨_, rfl, _, _, _, _, rfl, rfl, SqL.of upd_same, rfl, .inl ⟨_, rfl, _, rfl, _, _, rfl, rfl, hm, ?_⟩⟩
      refine ⟨_, rfl, _, _, _, _, rfl, rfl, SqL.of upd_same, rfl, _, rfl, _, _, rfl, rfl, hdv _, _, rfl, _, _, _, _, rfl, rfl, upd_same, rfl, ?_⟩
      exact ⟨_, rfl, q _ _ (Int.emod_nonneg _ (by omega)) (Int.emod_lt_of_pos _ hm) (S1.put i0) (nu f1)⟩
    refine ⟨fun σ H2 => ∃ z : Int, σ = [some (.ref st), some (.int m), none, some (.int z), none] ∧ H2 st = some (.lst [.ref sa, .int i, .int d, .int (n + 1)]) ∧ StP K H2 st sa ns ∧ Frm [st] H H2, ?_, ?_⟩
    · refine ⟨_, rfl, _, _, _, _, rfl, rfl, SqL.of upd_same, rfl, _, rfl, _, _, _, _, rfl, rfl, SqL.of upd_same, rfl, _, _, rfl, .inl S1.sq, _, _, rfl, rfl, _, rfl, ite3 (fun c2 => ?_) (fun c2 => ?_)⟩
      · have hlt : i.toNat < ns.length := by
          have := of_decide_eq_true c2
          simp at this
          omega
        refine ⟨_, rfl, _, _, _, _, rfl, rfl, SqL.of upd_same, rfl, _, rfl, _, _, _, _, rfl, rfl, SqL.of upd_same, rfl, _, _, _, .int (ns[i.toNat]), rfl, rfl, S1.sq, ?_, ?_⟩
        · have hh := atI_nat (j := i.toNat) (xs := ns.map V.int) (v := V.int ns[i.toNat]) (by simp [hlt])
          rwa [show ((i.toNat : Nat) : Int) = i by omega] at hh
        · exact ⟨_, rfl, upd_same, S1, f1⟩
      · exact ⟨0, rfl, upd_same, S1, f1⟩
    · rintro σ H2 ⟨z, rfl, e2, S2, f2⟩
      refine ⟨_, rfl, _, _, _, _, rfl, rfl, SqL.of e2, rfl, _, _, rfl, rfl, _, rfl, _, _, _, _, rfl, rfl, e2, rfl, ?_⟩
      have S3 := S2.put (i := i + 1) (d := d) (n := n + 1) (by omega)
      refine ⟨_, rfl, _, _, rfl, rfl, ⟨by decide, by decide, by decide⟩, _, _, rfl, rfl, _, rfl, ite3 (fun c3 => ?_) (fun c3 => ?_)⟩
      · refine ⟨_, rfl, _, rfl, _, _, rfl, rfl, hdv _, _, rfl, _, _, _, _, rfl, rfl, upd_same, rfl, ?_⟩
        refine ⟨_, rfl, .inl ⟨_, rfl, _, rfl, _, _, rfl, rfl, hm, ?_⟩⟩
        exact q _ _ (Int.emod_nonneg _ (by omega)) (Int.emod_lt_of_pos _ hm) (S3.put (by omega)) (nu (nu f2))
      · refine ⟨_, rfl, _, _, rfl, rfl, .inr (by decide), _, rfl, _, _, _, _, rfl, rfl, SqL.of upd_same, rfl, _, _, rfl, rfl, .inr (by decide), _, _, rfl, rfl, _, _, rfl, rfl, .inl ⟨_, rfl, _, _, rfl, rfl, (by show (0 : Int) < 2147483647; decide), _, _, rfl, rfl, .inr (by decide), _, rfl, _, _, _, _, rfl, rfl, SqL.of upd_same, rfl, _, _, rfl, rfl, .inl ⟨_, rfl, _, _, rfl, rfl, (by show (0 : Int) < 2147483629; decide), ?_⟩⟩⟩
        refine ⟨_, rfl, _, _, rfl, rfl, hdv7 _, .inl ⟨_, rfl, _, rfl, _, _, rfl, rfl, hm, ?_⟩⟩
        exact q _ _ (Int.emod_nonneg _ (by omega)) (Int.emod_lt_of_pos _ hm) S3 (nu f2)
end

/-! ### mathematics -/
theorem fmod_uniq {l r q m : Int} (e : l = r * q + m) (h : (0 ≤ m ∧ m < r) ∨ (r < m ∧ m ≤ 0)) : l.fmod r = m := by
  rcases h with ⟨h0, h1⟩ | ⟨h0, h1⟩
  · rw [Int.fmod_eq_emod_of_nonneg _ (by omega)]
    exact ((Int.ediv_emod_unique (q := q) (by omega)).mpr ⟨by omega, h0, h1⟩).2
  · rw [Int.fmod_eq_emod]
    by_cases z : m = 0
    · have d : r ∣ l := ⟨q, by omega⟩
      rw [if_pos (.inr d), Int.emod_eq_zero_of_dvd d]
      omega
    · have nd : ¬ (0 ≤ r ∨ r ∣ l) := by
        rintro (x | ⟨c, x⟩)
        · omega
        · have em : m = r * (c - q) := by
            rw [Int.mul_sub]
            omega
          have hc : c - q = 0 ∨ c - q ≥ 1 ∨ c - q ≤ -1 := by omega
          rcases hc with hc | hc | hc
          · rw [hc] at em; omega
          · have k : r * (c - q) ≤ r * 1 := Int.mul_le_mul_of_nonpos_left (by omega) hc
            omega
          · have k : r * (-1) ≤ r * (c - q) := Int.mul_le_mul_of_nonpos_left (by omega) hc
            omega
      rw [if_neg nd]
      have el : l % r = m - r := by
        rw [← Int.emod_neg]
        refine ((Int.ediv_emod_unique (q := -(q + 1)) (by omega)).mpr ⟨?_, by omega, by omega⟩).2
        rw [Int.neg_mul_neg, Int.mul_add]
        omega
      omega
def ab (x : Int) : Int := if x < 0 then -x else x
def quo (l r : Int) : Int := cond (decide (V.bl (decide (l < 0)) = V.bl (decide (r < 0)))) (ab l / ab r) (-(ab l / ab r))
theorem sgn_eq (l r : Int) : decide (V.bl (decide (l < 0)) = V.bl (decide (r < 0))) = (decide (l < 0) == decide (r < 0)) := by
  cases decide (l < 0) <;> cases decide (r < 0) <;> decide
theorem rest_fact {l r : Int} (hr : r ≠ 0) : ∃ t, 0 ≤ t ∧ t < ab r ∧ l - quo l r * r = if l < 0 then -t else t := by
  have hB : 0 < ab r := by unfold ab; split <;> omega
  have hd := Int.mul_ediv_add_emod (ab l) (ab r)
  have h0 := Int.emod_nonneg (ab l) (b := ab r) (by omega)
  have h1 := Int.emod_lt_of_pos (ab l) hB
  refine ⟨ab l % ab r, h0, h1, ?_⟩
  unfold quo
  rw [sgn_eq]
  generalize hq : ab l / ab r = q at *
  generalize ht : ab l % ab r = t at *
  by_cases a : l < 0 <;> by_cases b : r < 0
  · rw [decide_eq_true a, decide_eq_true b, if_pos a]
    have e1 : ab l = -l := if_pos a
    have e2 : ab r = -r := if_pos b
    rw [e1, e2] at hd
    show l - q * r = -t
    rw [Int.neg_mul] at hd
    have := Int.mul_comm q r
    omega
  · rw [decide_eq_true a, decide_eq_false b, if_pos a]
    have e1 : ab l = -l := if_pos a
    have e2 : ab r = r := if_neg b
    rw [e1, e2] at hd
    show l - -q * r = -t
    rw [Int.neg_mul]
    have := Int.mul_comm q r
    omega
  · rw [decide_eq_false a, decide_eq_true b, if_neg a]
    have e1 : ab l = l := if_neg a
    have e2 : ab r = -r := if_pos b
    rw [e1, e2] at hd
    show l - -q * r = t
    rw [Int.neg_mul] at hd ⊢
    have := Int.mul_comm q r
    omega
  · rw [decide_eq_false a, decide_eq_false b, if_neg a]
    have e1 : ab l = l := if_neg a
    have e2 : ab r = r := if_neg b
    rw [e1, e2] at hd
    show l - q * r = t
    have := Int.mul_comm q r
    omega
theorem mod_adj {l r : Int} (hr : r ≠ 0) (h1 : l - quo l r * r ≠ 0) (h2 : decide (l - quo l r * r < 0) ≠ decide (r < 0)) : l - quo l r * r + r = l.fmod r := by
  obtain ⟨t, t0, t1, e⟩ := rest_fact (l := l) hr
  have hc := Int.mul_comm (quo l r) r
  refine (fmod_uniq (q := quo l r - 1) (by rw [Int.mul_sub]; omega) ?_).symm
  by_cases b : r < 0
  · have e2 : ab r = -r := if_pos b
    have : ¬ (l - quo l r * r < 0) := fun x => h2 (by rw [decide_eq_true x, decide_eq_true b])
    refine .inr ?_
    split at e <;> omega
  · have e2 : ab r = r := if_neg b
    have : l - quo l r * r < 0 := Classical.byContradiction fun x => h2 (by rw [decide_eq_false x, decide_eq_false b])
    refine .inl ?_
    split at e <;> omega
theorem mod_same {l r : Int} (hr : r ≠ 0) (h : l - quo l r * r = 0 ∨ decide (l - quo l r * r < 0) = decide (r < 0)) : l - quo l r * r = l.fmod r := by
  obtain ⟨t, t0, t1, e⟩ := rest_fact (l := l) hr
  have hc := Int.mul_comm (quo l r) r
  refine (fmod_uniq (q := quo l r) (by omega) ?_).symm
  by_cases b : r < 0
  · have e2 : ab r = -r := if_pos b
    refine .inr ?_
    rcases h with h | h
    · omega
    · have : l - quo l r * r < 0 := by rw [decide_eq_true b] at h; exact of_decide_eq_true h
      split at e <;> omega
  · have e2 : ab r = r := if_neg b
    refine .inl ?_
    rcases h with h | h
    · omega
    · have : ¬ (l - quo l r * r < 0) := by rw [decide_eq_false b] at h; exact of_decide_eq_false h
      split at e <;> omega
/-! ### the mirrors -/
def wd (x : Int) : Prop := -2147483648 ≤ x ∧ x ≤ 2147483647
def isW (n : Int) : Bool := cond (decide (-2147483648 ≤ n)) (decide (n ≤ 2147483647)) false
theorem wd_of {n : Int} (h : isW n = true) : wd n := by
  unfold isW at h
  cases e : decide (-2147483648 ≤ n) <;> rw [e] at h
  · exact nomatch h
  · exact ⟨of_decide_eq_true e, of_decide_eq_true h⟩
def opS (k : Nat) : Str := (["+", "-", "*", "/", "mod", "rem"] : List Str).getD k ""
theorem o0 : ∀ k : _root_.Fin 6, decide (V.str (opS k.val) = V.str "+") = decide (k.val = 0) := by decide +kernel
theorem o1 : ∀ k : _root_.Fin 6, decide (V.str (opS k.val) = V.str "-") = decide (k.val = 1) := by decide +kernel
theorem o2 : ∀ k : _root_.Fin 6, decide (V.str (opS k.val) = V.str "*") = decide (k.val = 2) := by decide +kernel
theorem o3 : ∀ k : _root_.Fin 6, decide (V.str (opS k.val) = V.str "/") = decide (k.val = 3) := by decide +kernel
theorem o4 : ∀ k : _root_.Fin 6, decide (V.str (opS k.val) = V.str "mod") = decide (k.val = 4) := by decide +kernel
theorem oin : ∀ k : _root_.Fin 6, inV (.str (opS k.val)) [V.str "/", V.str "mod", V.str "rem"] = decide (3 ≤ k.val) := by decide +kernel
def resN (k : Nat) (l r : Int) : Int := match k with
  | 0 => l + r
  | 1 => l - r
  | 2 => l * r
  | 3 => quo l r
  | 4 => l.fmod r
  | _ => l - r * quo l r
def sgS (k : Nat) : Str := (["=", "/=", "<", "<=", ">", ">="] : List Str).getD k ""
theorem s0 : ∀ k : _root_.Fin 6, decide (V.str (sgS k.val) = V.str "=") = decide (k.val = 0) := by decide +kernel
theorem s1 : ∀ k : _root_.Fin 6, decide (V.str (sgS k.val) = V.str "/=") = decide (k.val = 1) := by decide +kernel
theorem s2 : ∀ k : _root_.Fin 6, decide (V.str (sgS k.val) = V.str "<") = decide (k.val = 2) := by decide +kernel
theorem s3 : ∀ k : _root_.Fin 6, decide (V.str (sgS k.val) = V.str "<=") = decide (k.val = 3) := by decide +kernel
theorem s4 : ∀ k : _root_.Fin 6, decide (V.str (sgS k.val) = V.str ">") = decide (k.val = 4) := by decide +kernel
def cmpN (k : Nat) (l r : Int) : Bool := match k with
  | 0 => decide (V.int l = V.int r)
  | 1 => !decide (V.int l = V.int r)
  | 2 => decide (l < r)
  | 3 => decide (l ≤ r)
  | 4 => decide (r < l)
  | _ => decide (r ≤ l)
def lexV (k : Nat) (l r : Int) : V := if 3 ≤ k ∧ r = 0 then .non else .int (resN k l r)

/-! ### the program's promises -/
def nmS (k : Nat) : Str := (["add", "sub", "mul", "div", "mod", "rem", "less", "equal"] : List Str).getD k ""
theorem nin : ∀ k : _root_.Fin 8, inV (.str (nmS k.val)) [V.str "less", V.str "equal"] = decide (6 ≤ k.val) := by decide +kernel
theorem nin2 : ∀ k : _root_.Fin 8, inV (.str (nmS k.val)) [V.str "div", V.str "mod", V.str "rem"] = decide (3 ≤ k.val ∧ k.val < 6) := by decide +kernel
def resC (k : Nat) (l r : Int) : Int := if k < 6 then resN k l r else if k = 6 then (if l < r then 1 else 0) else (if l = r then 1 else 0)
def zer (k : Nat) (r : Int) : Prop := (3 ≤ k ∧ k < 6) ∧ r = 0
theorem isW01 (b : Bool) : isW (if b = true then 1 else 0) = true := by cases b <;> decide
def spFits : Sp := fun vs H Q _ => ∃ n : Int, vs = [.int n] ∧ Q (.bl (isW n)) H
def spW (a : Addr) : Sp := fun vs H Q E => ∃ n : Int, vs = [.int n] ∧ (isW n = true → Q (.int n) H) ∧ (isW n = false → E (.ref a) none H)
def spCmp : Sp := fun vs H Q _ => ∃ (k : Nat) (l r : Int), k < 6 ∧ vs = [.str (sgS k), .int l, .int r] ∧ Q (.bl (cmpN k l r)) H
def spQuo : Sp := fun vs H Q _ => ∃ (l r : Int), vs = [.int l, .int r] ∧ wd l ∧ wd r ∧ r ≠ 0 ∧ Q (.int (quo l r)) H
def spRes : Sp := fun vs H Q _ => ∃ (k : Nat) (l r : Int), k < 6 ∧ vs = [.str (opS k), .int l, .int r] ∧ wd l ∧ wd r ∧ (3 ≤ k → r ≠ 0) ∧ Q (.int (resN k l r)) H
def spArith (aO aD : Addr) : Sp := fun vs H Q E => ∃ (k : Nat) (l r : Int), k < 6 ∧ vs = [.str (opS k), .int l, .int r] ∧ wd l ∧ wd r ∧ ((3 ≤ k ∧ r = 0) → ∀ H', Same H H' → E (.ref aD) none H') ∧
  (¬ (3 ≤ k ∧ r = 0) → ∀ H', Same H H' → (isW (resN k l r) = true → Q (.int (resN k l r)) H') ∧ (isW (resN k l r) = false → E (.ref aO) none H'))
def spCompute (aO aD : Addr) : Sp := fun vs H Q E => ∃ (k : Nat) (l r : Int), k < 8 ∧ vs = [.str (nmS k), .int l, .int r] ∧ wd l ∧ wd r ∧ (zer k r → ∀ H', Same H H' → E (.ref aD) none H') ∧
  (¬ zer k r → ∀ H', Same H H' → (isW (resC k l r) = true → Q (.int (resC k l r)) H') ∧ (isW (resC k l r) = false → E (.ref aO) none H'))
def spHigh : Sp := fun vs H Q _ => ∃ n : Int, vs = [.int n] ∧ Q (.int (n * 2048)) H
def spLow : Sp := fun vs H Q _ => ∃ n m : Int, vs = [.int n, .int m] ∧ Q (.int (n - n % 2048 + m)) H
def spLaw (K : PySem.W.Frag) : Sp := fun vs H Q _ => ∃ (a : Addr) (ns : List Int), vs = [.ref a] ∧ SqL K H a (ns.map V.int) ∧ ns.length ≤ 63 ∧ ∀ H', Q (.bl true) H'
theorem ab_pos {r : Int} (h : r ≠ 0) : 0 < ab r := by unfold ab; split <;> omega
theorem ab_small {r : Int} (h : wd r) : (ab r).natAbs < 2 ^ 33 := by
  obtain ⟨h1, h2⟩ := h
  unfold ab
  split <;> omega
theorem cdw {l r : Int} (h : wd r) (hr : r ≠ 0) : CDivW l (ab r) := wide_div (b := 33) (ab_pos hr) (ab_small h) (by decide) (by decide)
theorem cmulr {l r : Int} (h : wd r) : CMul l r := .inr ⟨by have := h.1; omega, by have := h.2; omega⟩
theorem cmull {l r : Int} (h : wd l) : CMul l r := .inl ⟨by have := h.1; omega, by have := h.2; omega⟩
section
variable {P : Program} {w : World} {K : PySem.W.Frag} {mg : Str → Option Value} {base : Heap} {a : Ad}
theorem ok_fits (T : Txt w K mg a) : FnOk P w K mg base CX0 1 a.f_fits a.d_fits ["number"] spFits := by
  refine T.F_fits.ok sc_fits (fun vs H Q E h => ?_) (fun cdv A outer s H vs Q E hr h => ?_)
  · obtain ⟨_, rfl, _⟩ := h; rfl
  · obtain ⟨n, rfl, q⟩ := h
    refine ⟨_, (pss_one (ps_ret (pe_chain op_le op_le (pe_glob (v := .int (-2147483648)) rfl T.g_MIN ⟨_, rfl⟩) (pv 0) (pe_glob (v := .int (2147483647)) rfl T.g_MAX ⟨_, rfl⟩)))), ?_⟩
    unfold isW at q
    refine ⟨_, rfl, _, _, rfl, rfl, _, rfl, ite3 (fun e => ?_) (fun e => ?_)⟩ <;> rw [e] at q
    · exact ⟨_, _, rfl, rfl, q⟩
    · exact q
theorem ok_word (T : Txt w K mg a) : FnOk P w K mg base (L2.CX P w) 2 a.f_word a.d_word ["number"] (spW a.C_Overflow) := by
  have G_fits : FnOk P w K mg base CX0 1 _ _ _ _ := ok_fits T
  refine T.F__word.okX sc_word (fun vs H Q E h => ?_) (fun cdv A outer s H vs Q E hr h => ?_)
  · obtain ⟨_, rfl, _⟩ := h; rfl
  · obtain ⟨n, rfl, q, qe⟩ := h
    refine ⟨_, (pss_cons (ps_if (pt_not (pt_val (pe_call G_fits (hr.mono (by decide)) rfl T.g_fits T.k_fits T.bd_fits .nil pass0 (pa_cons (pv 0) pa_nil)))) (pss_one (ps_raise rfl (takes_of rfl rfl rfl rfl) (pmk_own PySem.F.excBase_ValueError T.x_Overflow T.g_Overflow T.kC_Overflow (raises_own T.s1_Overflow T.ty_Overflow) rfl))) pss_nil)
      (pss_one (ps_ret (pv 0)))), ?_⟩
    refine ⟨_, rfl, n, rfl, _, rfl, ite3 (fun e => ?_) (fun e => ?_)⟩
    · exact qe (by simpa using e)
    · exact ⟨_, rfl, q (by simpa using e)⟩
theorem ok_compare (T : Txt w K mg a) : FnOk P w K mg base CX0 1 a.f_compare a.d_compare ["op", "left", "right"] spCmp := by
  refine T.F_compare.ok sc_compare (fun vs H Q E h => ?_) (fun cdv A outer s H vs Q E hr h => ?_)
  · obtain ⟨_, _, _, _, rfl, _⟩ := h; rfl
  · obtain ⟨k, l, r, hk, rfl, q⟩ := h
    refine ⟨_, (pss_cons (ps_match (pv 0) (pmc_str (pss_one (ps_ret (pe_cmpR op_eq (pv 1) (pv 2) (nomark _)))) (pmc_str (pss_one (ps_ret (pe_cmpR op_ne (pv 1) (pv 2) (nomark _)))) (pmc_str (pss_one (ps_ret (pe_cmpR op_lt (pv 1) (pv 2) (nomark _)))) (pmc_str (pss_one (ps_ret (pe_cmpR op_le (pv 1) (pv 2) (nomark _)))) (pmc_str (pss_one (ps_ret (pe_cmpR op_gt (pv 1) (pv 2) (nomark _)))) pmc_nil))))))
      (pss_one (ps_ret (pe_cmpR op_ge (pv 1) (pv 2) (nomark _))))), ?_⟩
    refine ⟨_, rfl, rfl, ?_⟩
    rw [s0 ⟨k, hk⟩]
    refine ite3 (fun e => ?_) (fun e0 => ⟨rfl, ?_⟩)
    · obtain rfl : k = 0 := of_decide_eq_true e
      exact ⟨_, rfl, _, rfl, rfl, q⟩
    rw [s1 ⟨k, hk⟩]
    refine ite3 (fun e => ?_) (fun e1 => ⟨rfl, ?_⟩)
    · obtain rfl : k = 1 := of_decide_eq_true e
      exact ⟨_, rfl, _, rfl, rfl, q⟩
    rw [s2 ⟨k, hk⟩]
    refine ite3 (fun e => ?_) (fun e2 => ⟨rfl, ?_⟩)
    · obtain rfl : k = 2 := of_decide_eq_true e
      exact ⟨_, rfl, _, rfl, _, _, rfl, rfl, q⟩
    rw [s3 ⟨k, hk⟩]
    refine ite3 (fun e => ?_) (fun e3 => ⟨rfl, ?_⟩)
    · obtain rfl : k = 3 := of_decide_eq_true e
      exact ⟨_, rfl, _, rfl, _, _, rfl, rfl, q⟩
    rw [s4 ⟨k, hk⟩]
    refine ite3 (fun e => ?_) (fun e4 => ?_)
    · obtain rfl : k = 4 := of_decide_eq_true e
      exact ⟨_, rfl, _, rfl, _, _, rfl, rfl, q⟩
    · obtain rfl : k = 5 := by
        have := of_decide_eq_false e0; have := of_decide_eq_false e1; have := of_decide_eq_false e2; have := of_decide_eq_false e3; have := of_decide_eq_false e4
        simp only at *
        omega
      exact ⟨_, rfl, _, rfl, _, _, rfl, rfl, q⟩
theorem ok_quotient (T : Txt w K mg a) : FnOk P w K mg base CX0 1 a.f_quotient a.d_quotient ["left", "right"] spQuo := by
  refine T.F__quotient.ok sc_quotient (fun vs H Q E h => ?_) (fun cdv A outer s H vs Q E hr h => ?_)
  · obtain ⟨_, _, rfl, _⟩ := h; rfl
  · obtain ⟨l, r, rfl, hl, hr', hn, q⟩ := h
    refine ⟨_, (pss_cons (ps_set (i := 2) sc_quotient.nd rfl (Or.inl rfl) (pe_op op_fdivW (pe_callB call_abs (by rfl) T.b_abs (by decide +kernel) (pa_cons (pv 0) pa_nil)) (pe_callB call_abs (by rfl) T.b_abs (by decide +kernel) (pa_cons (pv 1) pa_nil))))
      (pss_one (ps_ret (pe_ifExp (pt_cmpR op_eq (pe_cmpR op_lt (pv 0) pe_int (nomark _)) (pe_cmpR op_lt (pv 1) pe_int (nomark _)) (nomark _)) (pv 2) (pe_un un_neg (pv 2)))))), ?_⟩
    unfold quo at q
    refine ⟨_, rfl, _, rfl, _, rfl, _, rfl, _, _, rfl, rfl, cdw (l := ab l) hr' hn, ?_⟩
    refine ⟨_, rfl, _, _, rfl, rfl, _, rfl, _, _, rfl, rfl, rfl, _, rfl, ite3 (fun e => ?_) (fun e => ?_)⟩ <;> rw [e] at q
    · exact ⟨_, rfl, q⟩
    · exact ⟨_, rfl, _, rfl, q⟩
theorem ok_result (T : Txt w K mg a) : FnOk P w K mg base CX0 2 a.f_result a.d_result ["op", "left", "right"] spRes := by
  have G_quotient : FnOk P w K mg base CX0 1 _ _ _ _ := ok_quotient T
  refine T.F__result.ok sc_result (fun vs H Q E h => ?_) (fun cdv A outer s H vs Q E hr h => ?_)
  · obtain ⟨_, _, _, _, rfl, _⟩ := h; rfl
  · obtain ⟨k, l, r, hk, rfl, hl, hr', hz, q⟩ := h
    refine ⟨_, (pss_cons (ps_match (pv 0) (pmc_str (pss_one (ps_ret (pe_op op_add (pv 1) (pv 2)))) (pmc_str (pss_one (ps_ret (pe_op op_sub (pv 1) (pv 2)))) (pmc_str (pss_one (ps_ret (pe_op op_mul (pv 1) (pv 2)))) (pmc_str (pss_one (ps_ret (pe_call G_quotient (hr.mono (by decide)) rfl T.g__quotient T.k__quotient T.bd__quotient .nil pass0 (pa_cons (pv 1) (pa_cons (pv 2) pa_nil))))) (pmc_str (pss_one (ps_ret (pe_op op_modN (pv 1) (pv 2)))) pmc_nil))))))
      (pss_one (ps_ret (pe_op op_sub (pv 1) (pe_op op_mul (pv 2) (pe_call G_quotient (hr.mono (by decide)) rfl T.g__quotient T.k__quotient T.bd__quotient .nil pass0 (pa_cons (pv 1) (pa_cons (pv 2) pa_nil)))))))), ?_⟩
    refine ⟨_, rfl, rfl, ?_⟩
    rw [o0 ⟨k, hk⟩]
    refine ite3 (fun e => ?_) (fun e0 => ⟨rfl, ?_⟩)
    · obtain rfl : k = 0 := of_decide_eq_true e
      exact ⟨_, rfl, _, rfl, _, _, rfl, rfl, q⟩
    rw [o1 ⟨k, hk⟩]
    refine ite3 (fun e => ?_) (fun e1 => ⟨rfl, ?_⟩)
    · obtain rfl : k = 1 := of_decide_eq_true e
      exact ⟨_, rfl, _, rfl, _, _, rfl, rfl, q⟩
    rw [o2 ⟨k, hk⟩]
    refine ite3 (fun e => ?_) (fun e2 => ⟨rfl, ?_⟩)
    · obtain rfl : k = 2 := of_decide_eq_true e
      exact ⟨_, rfl, _, rfl, _, _, rfl, rfl, cmull hl, q⟩
    rw [o3 ⟨k, hk⟩]
    refine ite3 (fun e => ?_) (fun e3 => ⟨rfl, ?_⟩)
    · obtain rfl : k = 3 := of_decide_eq_true e
      exact ⟨_, rfl, _, rfl, l, r, rfl, hl, hr', hz (by decide), q⟩
    rw [o4 ⟨k, hk⟩]
    refine ite3 (fun e => ?_) (fun e4 => ?_)
    · obtain rfl : k = 4 := of_decide_eq_true e
      exact ⟨_, rfl, _, rfl, _, _, rfl, rfl, hz (by decide), q⟩
    · obtain rfl : k = 5 := by
        have := of_decide_eq_false e0; have := of_decide_eq_false e1; have := of_decide_eq_false e2; have := of_decide_eq_false e3; have := of_decide_eq_false e4
        simp only at *
        omega
      exact ⟨_, rfl, _, rfl, _, rfl, _, rfl, l, r, rfl, hl, hr', hz (by decide), _, _, rfl, rfl, cmull hr', _, _, rfl, rfl, q⟩
theorem ok_arithmetic (T : Txt w K mg a) : FnOk P w K mg base (L2.CX P w) 4 a.f_arithmetic a.d_arithmetic ["op", "left", "right"] (spArith a.C_Overflow a.C_DivisionByZero) := by
  have G_word : FnOk P w K mg base (L2.CX P w) 2 _ _ _ _ := ok_word T
  have G_result : FnOk P w K mg base CX0 2 _ _ _ _ := ok_result T
  refine T.F_arithmetic.okX sc_arithmetic (fun vs H Q E h => ?_) (fun cdv A outer s H vs Q E hr h => ?_)
  · obtain ⟨_, _, _, _, rfl, _⟩ := h; rfl
  · obtain ⟨k, l, r, hk, rfl, hl, hr', qz, q⟩ := h
    refine ⟨_, (pss_cons (ps_if (PW.pt (pw_and (pt_cmpR op_inS (pv 0) (pe_tup (pa_cons pe_str (pa_cons pe_str (pa_cons pe_str pa_nil)))) rfl) (pw_and1 (pt_cmpR op_eq (pv 2) pe_int (nomark _))))) (pss_one (ps_raise rfl (takes_of rfl rfl rfl rfl) (pmk_own PySem.F.excBase_ValueError T.x_DivisionByZero T.g_DivisionByZero T.kC_DivisionByZero (raises_own T.s1_DivisionByZero T.ty_DivisionByZero) rfl))) pss_nil)
      (pss_one (ps_ret (pe_call G_word (hr.mono (by decide)) rfl T.g__word T.k__word T.bd__word .nil (passes_call (takes_of rfl rfl rfl rfl) fun _ _ _ _ z => z) (pa_cons (pe_call G_result (hr.mono (by decide)) rfl T.g__result T.k__result T.bd__result .nil pass0 (pa_cons (pv 0) (pa_cons (pv 1) (pa_cons (pv 2) pa_nil)))) pa_nil))))), ?_⟩
    refine ⟨_, rfl, by decide, fun p np => ⟨_, _, rfl, .inr (SqT.of upd_same), rfl, rfl, _, rfl, ?_⟩⟩
    have ss := sN (Same.refl H) np (o := .tup [V.str "/", V.str "mod", V.str "rem"])
    rw [oin ⟨k, hk⟩]
    have go : ¬ (3 ≤ k ∧ r = 0) → tRet (tCall (spW a.C_Overflow) [] E (tCons (tCall spRes [] E0 (tCons (tVar 0) (tCons (tVar 1) (tCons (tVar 2) tNil)))) tNil)) { nx := fun _ H' => Q .non H', rt := Q } [some (.str (opS k)), some (.int l), some (.int r)] (upd H p (.tup [V.str "/", V.str "mod", V.str "rem"])) := fun hn => by
      refine ⟨_, rfl, _, rfl, _, rfl, k, l, r, hk, rfl, hl, hr', fun h3 hz => hn ⟨h3, hz⟩, resN k l r, rfl, ?_⟩
      exact q hn _ ss
    refine ite3 (fun e => ⟨_, rfl, rfl, _, rfl, ite3 (fun e2 => ?_) (fun e2 => ?_)⟩) (fun e => iteF ?_)
    · have hz : r = 0 := by simpa using e2
      exact qz ⟨of_decide_eq_true e, hz⟩ _ ss
    · exact go fun h => by
        have : r ≠ 0 := by simpa using e2
        exact this h.2
    · exact go fun h => of_decide_eq_false e h.1
theorem kd_sign (T : Txt w K mg a) : ∀ k, k < 8 → KDct K w a.c_SIGNS (nmS k) (.str (if k < 6 then opS k else if k = 6 then sgS 2 else sgS 0))
  | 0, _ => T.kd_SIGNS_add
  | 1, _ => T.kd_SIGNS_sub
  | 2, _ => T.kd_SIGNS_mul
  | 3, _ => T.kd_SIGNS_div
  | 4, _ => T.kd_SIGNS_mod
  | 5, _ => T.kd_SIGNS_rem
  | 6, _ => T.kd_SIGNS_less
  | 7, _ => T.kd_SIGNS_equal
  | k + 8, h => by omega
theorem ok_compute (T : Txt w K mg a) : FnOk P w K mg base (L2.CX P w) 5 a.f_compute a.d_compute ["name", "left", "right"] (spCompute a.C_Overflow a.C_DivisionByZero) := by
  have G_arithmetic : FnOk P w K mg base (L2.CX P w) 4 _ _ _ _ := ok_arithmetic T
  have G_compare : FnOk P w K mg base CX0 1 _ _ _ _ := ok_compare T
  refine T.F_compute.okX sc_compute (fun vs H Q E h => ?_) (fun cdv A outer s H vs Q E hr h => ?_)
  · obtain ⟨_, _, _, _, rfl, _⟩ := h; rfl
  · obtain ⟨k, l, r, hk, rfl, hl, hr', qz, q⟩ := h
    refine ⟨_, (pss_cons (ps_set (i := 3) sc_compute.nd rfl (Or.inl rfl) (pe_ix ix_kdict (pe_glob (v := .ref a.c_SIGNS) rfl T.g_SIGNS rfl) (pv 0) (fun _ _ => rfl)))
      (pss_cons (ps_if (pt_cmpR op_inS (pv 0) (pe_tup (pa_cons pe_str (pa_cons pe_str pa_nil))) rfl) (pss_one (ps_ret (pe_callTy call_int1 (by rfl) T.b_int (by decide +kernel) (pa_cons (pe_call G_compare (hr.mono (by decide)) rfl T.g_compare T.k_compare T.bd_compare .nil pass0 (pa_cons (pv 3) (pa_cons (pv 1) (pa_cons (pv 2) pa_nil)))) pa_nil)))) pss_nil)
      (pss_one (ps_ret (pe_call G_arithmetic (hr.mono (by decide)) rfl T.g_arithmetic T.k_arithmetic T.bd_arithmetic .nil (passes_call (takes_of rfl rfl rfl rfl) fun _ _ _ _ z => z) (pa_cons (pv 3) (pa_cons (pv 1) (pa_cons (pv 2) pa_nil)))))))), ?_⟩
    refine ⟨_, rfl, _, _, _, rfl, rfl, kd_sign T k hk, ?_⟩
    refine ⟨_, rfl, by decide, fun p np => ⟨_, _, rfl, .inr (SqT.of upd_same), rfl, rfl, _, rfl, ?_⟩⟩
    have ss := sN (Same.refl H) np (o := .tup [V.str "less", V.str "equal"])
    rw [nin ⟨k, hk⟩]
    refine ite3 (fun e => ?_) (fun e => ?_)
    · have h6 : 6 ≤ k := of_decide_eq_true e
      obtain rfl | rfl : k = 6 ∨ k = 7 := by omega
      · refine ⟨_, rfl, _, rfl, _, rfl, 2, l, r, by decide, rfl, .inr ⟨_, rfl, ?_⟩⟩
        have hr1 : resC 6 l r = if decide (l < r) = true then 1 else 0 := by
          show (if l < r then (1 : Int) else 0) = _
          by_cases c : l < r <;> simp [c]
        have := (q (fun h => by have := h.1.2; omega) _ ss).1 (by rw [hr1]; exact isW01 _)
        rw [hr1] at this
        exact this
      · refine ⟨_, rfl, _, rfl, _, rfl, 0, l, r, by decide, rfl, .inr ⟨_, rfl, ?_⟩⟩
        have hr1 : resC 7 l r = if decide (V.int l = V.int r) = true then 1 else 0 := by
          show (if l = r then (1 : Int) else 0) = _
          by_cases c : l = r <;> simp [c]
        have := (q (fun h => by have := h.1.2; omega) _ ss).1 (by rw [hr1]; exact isW01 _)
        rw [hr1] at this
        exact this
    · have h6 : k < 6 := by have := of_decide_eq_false e; simp only at this; omega
      have er : resC k l r = resN k l r := if_pos h6
      rw [er] at q
      rw [if_pos h6]
      refine ⟨_, rfl, _, rfl, _, rfl, k, l, r, h6, rfl, hl, hr', fun hz H' s' => qz ⟨⟨hz.1, h6⟩, hz.2⟩ _ (ss.trans s'), fun hz H' s' => q (fun h => hz ⟨h.1.1, h.2⟩) _ (ss.trans s')⟩
theorem ok_high_word (T : Txt w K mg a) : FnOk P w K mg base CX0 1 a.f_high_word a.d_high_word ["n"] spHigh := by
  refine T.F_high_word.ok sc_high_word (fun vs H Q E h => ?_) (fun cdv A outer s H vs Q E hr h => ?_)
  · obtain ⟨_, rfl, _⟩ := h; rfl
  · obtain ⟨n, rfl, q⟩ := h
    refine ⟨_, (pss_one (ps_ret (pe_op op_mul (pv 0) (pe_glob (v := .int (2048)) rfl T.g_PART ⟨_, rfl⟩)))), ?_⟩
    exact ⟨_, rfl, _, _, rfl, rfl, .inr ⟨by decide, by decide⟩, q⟩
theorem ok_low_word (T : Txt w K mg a) : FnOk P w K mg base CX0 1 a.f_low_word a.d_low_word ["word", "m"] spLow := by
  refine T.F_low_word.ok sc_low_word (fun vs H Q E h => ?_) (fun cdv A outer s H vs Q E hr h => ?_)
  · obtain ⟨_, _, rfl, _⟩ := h; rfl
  · obtain ⟨n, m, rfl, q⟩ := h
    refine ⟨_, (pss_one (ps_ret (pe_op op_add (pe_op op_sub (pv 0) (pe_op op_mod (pv 0) (pe_glob (v := .int (2048)) rfl T.g_PART ⟨_, rfl⟩))) (pv 1)))), ?_⟩
    exact ⟨_, rfl, _, rfl, _, _, rfl, rfl, (by show (0 : Int) < 2048; decide), _, _, rfl, rfl, _, rfl, _, _, rfl, rfl, q⟩
end

/-! ### the law's own helpers -/
theorem fr1 {st p : Addr} {H H' : Hp} {o : HO} (f : Frm [st] H H') (e : H p = some o) (n : p ≠ st) : H' p = some o := f p o e (by simpa using n)
def spIsI : Sp := fun vs H Q _ => ∃ n : Int, vs = [.int n] ∧ Q (.bl true) H
def spWordL (K : PySem.W.Frag) : Sp := fun vs H Q _ => ∃ (st sa : Addr) (ns : List Int), vs = [.ref st] ∧ StP K H st sa ns ∧ ∀ (v : Int) (H' : Hp), wd v → StP K H' st sa ns → Frm [st] H H' → Q (.int v) H'
def spDue : Sp := fun vs H Q _ => ∃ (k : Nat) (l r : Int), k < 8 ∧ vs = [.str (nmS k), .int l, .int r] ∧ wd l ∧ wd r ∧ ¬ zer k r ∧ ∀ H', Same H H' → Q (.int (resC k l r)) H'
def spLC : Sp := fun vs H Q _ => ∃ (k : Nat) (l r : Int), k < 8 ∧ vs = [.str (nmS k), .int l, .int r] ∧ wd l ∧ wd r ∧ ∀ H', Same H H' → Q (.bl true) H'
def spHalves (K : PySem.W.Frag) : Sp := fun vs H Q _ => ∃ (st sa : Addr) (ns : List Int), vs = [.ref st] ∧ StP K H st sa ns ∧ ∀ (H' : Hp), StP K H' st sa ns → Frm [st] H H' → Q (.bl true) H'
theorem w4 (j : Nat) (h : j < 4) : ∃ x, [V.int 2147483647, V.int (-2147483648), V.int 2147483646, V.int (-2147483647)][j]? = some (V.int x) ∧ wd x := by
  match j, h with
  | 0, _ => exact ⟨_, rfl, by decide, by decide⟩
  | 1, _ => exact ⟨_, rfl, by decide, by decide⟩
  | 2, _ => exact ⟨_, rfl, by decide, by decide⟩
  | 3, _ => exact ⟨_, rfl, by decide, by decide⟩
theorem w6 (j : Nat) (h : j < 6) : ∃ x, [V.int 46340, V.int 46341, V.int (-46340), V.int (-46341), V.int 65536, V.int (-65536)][j]? = some (V.int x) ∧ -100000 ≤ x ∧ x ≤ 100000 := by
  match j, h with
  | 0, _ => exact ⟨_, rfl, by decide, by decide⟩
  | 1, _ => exact ⟨_, rfl, by decide, by decide⟩
  | 2, _ => exact ⟨_, rfl, by decide, by decide⟩
  | 3, _ => exact ⟨_, rfl, by decide, by decide⟩
  | 4, _ => exact ⟨_, rfl, by decide, by decide⟩
  | 5, _ => exact ⟨_, rfl, by decide, by decide⟩
theorem n0 : ∀ k : _root_.Fin 8, decide (V.str (nmS k.val) = V.str "less") = decide (k.val = 6) := by decide +kernel
theorem n1 : ∀ k : _root_.Fin 8, decide (V.str (nmS k.val) = V.str "equal") = decide (k.val = 7) := by decide +kernel
theorem n2 : ∀ k : _root_.Fin 8, decide (V.str (nmS k.val) = V.str "add") = decide (k.val = 0) := by decide +kernel
theorem n3 : ∀ k : _root_.Fin 8, decide (V.str (nmS k.val) = V.str "sub") = decide (k.val = 1) := by decide +kernel
theorem n4 : ∀ k : _root_.Fin 8, decide (V.str (nmS k.val) = V.str "mul") = decide (k.val = 2) := by decide +kernel
theorem n5 : ∀ k : _root_.Fin 8, decide (V.str (nmS k.val) = V.str "div") = decide (k.val = 3) := by decide +kernel
theorem n6 : ∀ k : _root_.Fin 8, decide (V.str (nmS k.val) = V.str "mod") = decide (k.val = 4) := by decide +kernel
theorem nm_at : ∀ k : _root_.Fin 8, [V.str "add", V.str "sub", V.str "mul", V.str "div", V.str "mod", V.str "rem", V.str "less", V.str "equal"][k.val]? = some (V.str (nmS k.val)) := by decide +kernel
section
variable {P : Program} {w : World} {K : PySem.W.Frag} {mg : Str → Option Value} {base : Heap} {a : Ad}
theorem ok_law_is_integer (T : Txt w K mg a) : FnOk P w K mg base CX0 1 a.f_law_is_integer a.d_law_is_integer ["actual"] spIsI := by
  refine T.F__law_is_integer.ok sc_law_is_integer (fun vs H Q E h => ?_) (fun cdv A outer s H vs Q E hr h => ?_)
  · obtain ⟨_, rfl, _⟩ := h; rfl
  · obtain ⟨n, rfl, q⟩ := h
    refine ⟨_, (pss_one (ps_ret (pe_and (pe_callB call_isi (by rfl) T.b_isinstance (by decide +kernel) (pa_cons (pv 0) (pa_cons (pe_bltn (v := .ty "int") (by rfl) T.b_int (by decide +kernel) rfl) pa_nil))) (pe_one (pe_not (pe_callB call_isi (by rfl) T.b_isinstance (by decide +kernel) (pa_cons (pv 0) (pa_cons (pe_bltn (v := .ty "bool") (by rfl) T.b_bool (by decide +kernel) rfl) pa_nil)))))))), ?_⟩
    refine ⟨_, rfl, _, _, _, _, _, rfl, .ty _, .base (.int _), kit_ty (by decide +kernel : kitB "int" "int" = some true), _, rfl, iteT ?_⟩
    exact ⟨_, rfl, _, _, _, _, _, rfl, .ty _, .base (.int _), kit_ty (by decide +kernel : kitB "int" "bool" = some false), _, rfl, q⟩
theorem ok_law_word (T : Txt w K mg a) : FnOk P w K mg base CX0 2 a.f_law_word a.d_law_word ["state"] (spWordL K) := by
  have G_law_pick : FnOk P w K mg base CX0 1 _ _ _ _ := ok_law_pick T
  refine T.F__law_word.ok sc_law_word (fun vs H Q E h => ?_) (fun cdv A outer s H vs Q E hr h => ?_)
  · obtain ⟨_, _, _, rfl, _⟩ := h; rfl
  · obtain ⟨st, sa, ns, rfl, S, q⟩ := h
    refine ⟨_, (pss_cons (ps_set (i := 1) sc_law_word.nd rfl (Or.inl rfl) (pe_call G_law_pick (hr.mono (by decide)) rfl T.g__law_pick T.k__law_pick T.bd__law_pick .nil pass0 (pa_cons (pv 0) (pa_cons pe_int pa_nil))))
      (pss_cons (ps_if (pt_cmpR op_eq (pv 1) pe_int (nomark _)) (pss_one (ps_ret (pe_ix ix_list (pe_lst (pa_cons pe_int (pa_cons (pe_un un_neg pe_int) (pa_cons pe_int (pa_cons (pe_un un_neg pe_int) pa_nil))))) (pe_call G_law_pick (hr.mono (by decide)) rfl T.g__law_pick T.k__law_pick T.bd__law_pick .nil pass0 (pa_cons (pv 0) (pa_cons pe_int pa_nil))) (fun _ _ => rfl)))) pss_nil)
      (pss_cons (ps_if (pt_cmpR op_eq (pv 1) pe_int (nomark _)) (pss_one (ps_ret (pe_op op_sub (pe_call G_law_pick (hr.mono (by decide)) rfl T.g__law_pick T.k__law_pick T.bd__law_pick .nil pass0 (pa_cons (pv 0) (pa_cons pe_int pa_nil))) pe_int))) pss_nil)
      (pss_cons (ps_if (pt_cmpR op_eq (pv 1) pe_int (nomark _)) (pss_one (ps_ret (pe_op op_sub (pe_op op_add (pe_ix ix_list (pe_lst (pa_cons pe_int (pa_cons pe_int (pa_cons (pe_un un_neg pe_int) (pa_cons (pe_un un_neg pe_int) (pa_cons pe_int (pa_cons (pe_un un_neg pe_int) pa_nil))))))) (pe_call G_law_pick (hr.mono (by decide)) rfl T.g__law_pick T.k__law_pick T.bd__law_pick .nil pass0 (pa_cons (pv 0) (pa_cons pe_int pa_nil))) (fun _ _ => rfl)) (pe_call G_law_pick (hr.mono (by decide)) rfl T.g__law_pick T.k__law_pick T.bd__law_pick .nil pass0 (pa_cons (pv 0) (pa_cons pe_int pa_nil)))) pe_int))) pss_nil)
      (pss_one (ps_ret (pe_op op_sub (pe_call G_law_pick (hr.mono (by decide)) rfl T.g__law_pick T.k__law_pick T.bd__law_pick .nil pass0 (pa_cons (pv 0) (pa_cons pe_int pa_nil))) pe_int))))))), ?_⟩
    refine ⟨_, rfl, st, sa, ns, 6, rfl, S, by decide, by decide, fun k H1 k0 k7 S1 F1 => ?_⟩
    refine ⟨_, rfl, rfl, _, rfl, ite3 (fun e => ?_) (fun e => ?_)⟩
    · refine ⟨_, rfl, _, rfl, (by show 4 ≤ sizeLine; decide), fun p np => ⟨_, rfl, st, sa, ns, 4, rfl, S1.same (sN (Same.refl _) np), by decide, by decide, fun v H2 v0 v1 S2 F2 => ?_⟩⟩
      obtain ⟨j, rfl⟩ : ∃ j : Nat, v = (j : Int) := ⟨v.toNat, by omega⟩
      obtain ⟨x, hx, hw⟩ := w4 j (by omega)
      obtain ⟨_, _, _, _, hst⟩ := S1.at'
      have hp := fr1 F2 upd_same (ne_of_none hst np).symm
      exact ⟨_, _, _, _, rfl, rfl, SqL.of hp, atI_nat hx, q _ _ hw S2 ((F1.new np).trans F2)⟩
    refine ⟨_, rfl, rfl, _, rfl, ite3 (fun e => ?_) (fun e => ?_)⟩
    · refine ⟨_, rfl, st, sa, ns, 4294967296, rfl, S1, by decide, by decide, fun v H2 v0 v1 S2 F2 => ⟨_, _, rfl, rfl, ?_⟩⟩
      exact q _ _ ⟨by omega, by omega⟩ S2 (F1.trans F2)
    refine ⟨_, rfl, rfl, _, rfl, ite3 (fun e => ?_) (fun e => ?_)⟩
    · refine ⟨_, rfl, _, rfl, _, rfl, (by show 6 ≤ sizeLine; decide), fun p np => ⟨_, rfl, st, sa, ns, 6, rfl, S1.same (sN (Same.refl _) np), by decide, by decide, fun v H2 v0 v1 S2 F2 => ?_⟩⟩
      obtain ⟨j, rfl⟩ : ∃ j : Nat, v = (j : Int) := ⟨v.toNat, by omega⟩
      obtain ⟨x, hx, hw⟩ := w6 j (by omega)
      obtain ⟨_, _, _, _, hst⟩ := S1.at'
      have hp := fr1 F2 upd_same (ne_of_none hst np).symm
      refine ⟨_, _, _, _, rfl, rfl, SqL.of hp, atI_nat hx, _, rfl, st, sa, ns, 3, rfl, S2, by decide, by decide, fun v' H3 v0' v1' S3 F3 => ?_⟩
      exact ⟨_, _, rfl, rfl, _, _, rfl, rfl, q _ _ ⟨by omega, by omega⟩ S3 (((F1.new np).trans F2).trans F3)⟩
    · refine ⟨_, rfl, st, sa, ns, 13, rfl, S1, by decide, by decide, fun v H2 v0 v1 S2 F2 => ⟨_, _, rfl, rfl, ?_⟩⟩
      exact q _ _ ⟨by omega, by omega⟩ S2 (F1.trans F2)
theorem ok_law_quotient (T : Txt w K mg a) : FnOk P w K mg base CX0 1 a.f_law_quotient a.d_law_quotient ["left", "right"] spQuo := by
  refine T.F__law_quotient.ok sc_law_quotient (fun vs H Q E h => ?_) (fun cdv A outer s H vs Q E hr h => ?_)
  · obtain ⟨_, _, rfl, _⟩ := h; rfl
  · obtain ⟨l, r, rfl, hl, hr', hn, q⟩ := h
    refine ⟨_, (pss_cons (ps_set (i := 2) sc_law_quotient.nd rfl (Or.inl rfl) (pe_op op_fdivW (pe_callB call_abs (by rfl) T.b_abs (by decide +kernel) (pa_cons (pv 0) pa_nil)) (pe_callB call_abs (by rfl) T.b_abs (by decide +kernel) (pa_cons (pv 1) pa_nil))))
      (pss_cons (ps_if (pt_cmpR op_ne (pe_cmpR op_lt (pv 0) pe_int (nomark _)) (pe_cmpR op_lt (pv 1) pe_int (nomark _)) (nomark _)) (pss_one (ps_ret (pe_op op_sub pe_int (pv 2)))) pss_nil)
      (pss_one (ps_ret (pv 2))))), ?_⟩
    unfold quo at q
    refine ⟨_, rfl, _, rfl, _, rfl, _, rfl, _, _, rfl, rfl, cdw (l := ab l) hr' hn, ?_⟩
    refine ⟨_, rfl, _, _, rfl, rfl, _, rfl, _, _, rfl, rfl, rfl, _, rfl, ite3 (fun e => ?_) (fun e => ?_)⟩
    · have e' : decide (V.bl (decide (l < 0)) = V.bl (decide (r < 0))) = false := by simpa using e
      rw [e'] at q
      exact ⟨_, rfl, _, _, rfl, rfl, by show Q (V.int (0 - ab l / ab r)) H; rw [Int.zero_sub]; exact q⟩
    · have e' : decide (V.bl (decide (l < 0)) = V.bl (decide (r < 0))) = true := by simpa using e
      rw [e'] at q
      exact ⟨_, rfl, q⟩
theorem ok_law_due (T : Txt w K mg a) : FnOk P w K mg base CX0 2 a.f_law_due a.d_law_due ["name", "left", "right"] spDue := by
  have G_law_quotient : FnOk P w K mg base CX0 1 _ _ _ _ := ok_law_quotient T
  refine T.F__law_due.ok sc_law_due (fun vs H Q E h => ?_) (fun cdv A outer s H vs Q E hr h => ?_)
  · obtain ⟨_, _, _, _, rfl, _⟩ := h; rfl
  · obtain ⟨k, l, r, hk, rfl, hl, hr', hz, q⟩ := h
    refine ⟨_, (pss_cons (ps_if (pt_cmpR op_eq (pv 0) pe_str (nomark _)) (pss_one (ps_ret (pe_ix ix_list (pe_lst (pa_cons pe_int (pa_cons pe_int pa_nil))) (pe_callTy call_int1 (by rfl) T.b_int (by decide +kernel) (pa_cons (pe_cmpR op_ge (pv 1) (pv 2) (nomark _)) pa_nil)) (fun _ _ => rfl)))) pss_nil)
      (pss_cons (ps_if (pt_cmpR op_eq (pv 0) pe_str (nomark _)) (pss_one (ps_ret (pe_ix ix_list (pe_lst (pa_cons pe_int (pa_cons pe_int pa_nil))) (pe_callTy call_int1 (by rfl) T.b_int (by decide +kernel) (pa_cons (pe_cmpR op_eq (pv 1) (pv 2) (nomark _)) pa_nil)) (fun _ _ => rfl)))) pss_nil)
      (pss_cons (ps_if (pt_cmpR op_eq (pv 0) pe_str (nomark _)) (pss_one (ps_ret (pe_op op_add (pv 1) (pv 2)))) pss_nil)
      (pss_cons (ps_if (pt_cmpR op_eq (pv 0) pe_str (nomark _)) (pss_one (ps_ret (pe_op op_sub (pv 1) (pv 2)))) pss_nil)
      (pss_cons (ps_if (pt_cmpR op_eq (pv 0) pe_str (nomark _)) (pss_one (ps_ret (pe_op op_mul (pv 1) (pv 2)))) pss_nil)
      (pss_cons (ps_if (pt_cmpR op_eq (pv 0) pe_str (nomark _)) (pss_one (ps_ret (pe_call G_law_quotient (hr.mono (by decide)) rfl T.g__law_quotient T.k__law_quotient T.bd__law_quotient .nil pass0 (pa_cons (pv 1) (pa_cons (pv 2) pa_nil))))) pss_nil)
      (pss_cons (ps_set (i := 3) sc_law_due.nd rfl (Or.inl rfl) (pe_op op_sub (pv 1) (pe_op op_mul (pv 2) (pe_call G_law_quotient (hr.mono (by decide)) rfl T.g__law_quotient T.k__law_quotient T.bd__law_quotient .nil pass0 (pa_cons (pv 1) (pa_cons (pv 2) pa_nil))))))
      (pss_cons (ps_if (PW.pt (pw_and (pt_cmpR op_eq (pv 0) pe_str (nomark _)) (pw_and (pt_cmpR op_ne (pv 3) pe_int (nomark _)) (pw_and1 (pt_cmpR op_ne (pe_cmpR op_lt (pv 3) pe_int (nomark _)) (pe_cmpR op_lt (pv 2) pe_int (nomark _)) (nomark _)))))) (pss_one (ps_ret (pe_op op_add (pv 3) (pv 2)))) pss_nil)
      (pss_one (ps_ret (pv 3))))))))))), ?_⟩
    refine ⟨_, rfl, rfl, _, rfl, ?_⟩
    rw [n0 ⟨k, hk⟩]
    refine ite3 (fun e => ?_) (fun e0 => ?_)
    · obtain rfl : k = 6 := of_decide_eq_true e
      refine ⟨(by show 2 ≤ sizeLine; decide), fun p np => ⟨_, rfl, _, rfl, _, _, rfl, rfl, .inr ⟨_, rfl, ?_⟩⟩⟩
      have q' := q _ (sN (Same.refl _) np (o := .lst [V.int 1, V.int 0]))
      rw [show resC 6 l r = if l < r then 1 else 0 from rfl] at q'
      by_cases c : l < r
      · rw [if_pos c] at q'
        rw [decide_eq_false (show ¬ r ≤ l by omega)]
        exact ⟨_, _, _, _, rfl, rfl, SqL.of upd_same, atI_nat (j := 0) rfl, q'⟩
      · rw [if_neg c] at q'
        rw [decide_eq_true (show r ≤ l by omega)]
        exact ⟨_, _, _, _, rfl, rfl, SqL.of upd_same, atI_nat (j := 1) rfl, q'⟩
    refine ⟨_, rfl, rfl, _, rfl, ?_⟩
    rw [n1 ⟨k, hk⟩]
    refine ite3 (fun e => ?_) (fun e1 => ?_)
    · obtain rfl : k = 7 := of_decide_eq_true e
      refine ⟨(by show 2 ≤ sizeLine; decide), fun p np => ⟨_, rfl, _, rfl, rfl, .inr ⟨_, rfl, ?_⟩⟩⟩
      have q' := q _ (sN (Same.refl _) np (o := .lst [V.int 0, V.int 1]))
      rw [show resC 7 l r = if l = r then 1 else 0 from rfl] at q'
      by_cases c : l = r
      · rw [if_pos c] at q'
        rw [show decide (V.int l = V.int r) = true by simp [c]]
        exact ⟨_, _, _, _, rfl, rfl, SqL.of upd_same, atI_nat (j := 1) rfl, q'⟩
      · rw [if_neg c] at q'
        rw [show decide (V.int l = V.int r) = false by simp [c]]
        exact ⟨_, _, _, _, rfl, rfl, SqL.of upd_same, atI_nat (j := 0) rfl, q'⟩
    have h6 : k < 6 := by
      have := of_decide_eq_false e0; have := of_decide_eq_false e1
      simp only at *
      omega
    have q := q _ (Same.refl _)
    rw [show resC k l r = resN k l r from if_pos h6] at q
    refine ⟨_, rfl, rfl, _, rfl, ?_⟩
    rw [n2 ⟨k, hk⟩]
    refine ite3 (fun e => ?_) (fun e2 => ?_)
    · obtain rfl : k = 0 := of_decide_eq_true e
      exact ⟨_, rfl, _, rfl, _, _, rfl, rfl, q⟩
    refine ⟨_, rfl, rfl, _, rfl, ?_⟩
    rw [n3 ⟨k, hk⟩]
    refine ite3 (fun e => ?_) (fun e3 => ?_)
    · obtain rfl : k = 1 := of_decide_eq_true e
      exact ⟨_, rfl, _, rfl, _, _, rfl, rfl, q⟩
    refine ⟨_, rfl, rfl, _, rfl, ?_⟩
    rw [n4 ⟨k, hk⟩]
    refine ite3 (fun e => ?_) (fun e4 => ?_)
    · obtain rfl : k = 2 := of_decide_eq_true e
      exact ⟨_, rfl, _, rfl, _, _, rfl, rfl, cmull hl, q⟩
    have k3 : 3 ≤ k := by
      have := of_decide_eq_false e2; have := of_decide_eq_false e3; have := of_decide_eq_false e4
      simp only at *
      omega
    have hn : r ≠ 0 := fun h => hz ⟨⟨k3, h6⟩, h⟩
    refine ⟨_, rfl, rfl, _, rfl, ?_⟩
    rw [n5 ⟨k, hk⟩]
    refine ite3 (fun e => ?_) (fun e5 => ?_)
    · obtain rfl : k = 3 := of_decide_eq_true e
      exact ⟨_, rfl, _, rfl, l, r, rfl, hl, hr', hn, q⟩
    refine ⟨_, rfl, _, rfl, _, rfl, _, rfl, l, r, rfl, hl, hr', hn, _, _, rfl, rfl, cmull hr', _, _, rfl, rfl, ?_⟩
    refine ⟨_, rfl, rfl, _, rfl, ?_⟩
    rw [n6 ⟨k, hk⟩]
    refine ite3 (fun e => ?_) (fun e6 => ?_)
    · obtain rfl : k = 4 := of_decide_eq_true e
      rw [Int.mul_comm r]
      refine ⟨_, rfl, rfl, _, rfl, ite3 (fun f1 => ?_) (fun f1 => ?_)⟩
      · have g1 : l - quo l r * r ≠ 0 := by simpa using f1
        refine ⟨_, rfl, _, _, rfl, rfl, _, rfl, _, _, rfl, rfl, rfl, _, rfl, ite3 (fun f2 => ?_) (fun f2 => ?_)⟩
        · have g2 : decide (l - quo l r * r < 0) ≠ decide (r < 0) := by simpa using f2
          exact ⟨_, rfl, _, rfl, _, _, rfl, rfl, by rw [show resN 4 l r = l - quo l r * r + r from (mod_adj hn g1 g2).symm] at q; exact q⟩
        · have g2 : decide (l - quo l r * r < 0) = decide (r < 0) := by simpa using f2
          exact ⟨_, rfl, by rw [show resN 4 l r = l - quo l r * r from (mod_same hn (.inr g2)).symm] at q; exact q⟩
      · have g1 : l - quo l r * r = 0 := by simpa using f1
        exact iteF ⟨_, rfl, by rw [show resN 4 l r = l - quo l r * r from (mod_same hn (.inl g1)).symm] at q; exact q⟩
    · obtain rfl : k = 5 := by
        have := of_decide_eq_false e5; have := of_decide_eq_false e6
        simp only at *
        omega
      exact iteF ⟨_, rfl, q⟩
end

def zb (k : Nat) (r : Int) : Bool := decide ((3 ≤ k ∧ k < 6) ∧ r = 0)
def dueV (k : Nat) (l r : Int) : Int := if zb k r = true then 0 else resC k l r
theorem zb_in {k : Nat} {r : Int} (h : 3 ≤ k ∧ k < 6) : zb k r = decide (V.int r = V.int 0) := by
  unfold zb
  by_cases c : r = 0 <;> simp [c, h]
theorem zb_out {k : Nat} {r : Int} (h : ¬ (3 ≤ k ∧ k < 6)) : zb k r = false := decide_eq_false fun x => h x.1
theorem isW_not (d : Int) : (!isW d) = (decide (d < -2147483648) || decide (2147483647 < d)) := by
  unfold isW
  by_cases c : -2147483648 ≤ d
  · rw [decide_eq_true c, decide_eq_false (show ¬ d < -2147483648 by omega)]
    show (!decide (d ≤ 2147483647)) = (false || _)
    by_cases e : d ≤ 2147483647
    · rw [decide_eq_true e, decide_eq_false (show ¬ 2147483647 < d by omega)] <;> rfl
    · rw [decide_eq_false e, decide_eq_true (show 2147483647 < d by omega)] <;> rfl
  · rw [decide_eq_false c, decide_eq_true (show d < -2147483648 by omega)] <;> rfl
section
variable {P : Program} {w : World} {K : PySem.W.Frag} {mg : Str → Option Value} {base : Heap} {a : Ad}
theorem ok_law_compute (T : Txt w K mg a) : FnOk P w K mg base CX0 6 a.f_law_compute a.d_law_compute ["name", "left", "right"] spLC := by
  have G_compute : FnOk P w K mg base (L2.CX P w) 5 _ _ _ _ := ok_compute T
  have G_law_due : FnOk P w K mg base CX0 2 _ _ _ _ := ok_law_due T
  have G_law_is_integer : FnOk P w K mg base CX0 1 _ _ _ _ := ok_law_is_integer T
  refine T.F__law_compute.ok sc_law_compute (fun vs H Q E h => ?_) (fun cdv A outer s H vs Q E hr h => ?_)
  · obtain ⟨_, _, _, _, rfl, _⟩ := h; rfl
  · obtain ⟨k, l, r, hk, rfl, hl, hr', q⟩ := h
    refine ⟨_, (C8.pss_cut (ps_set (i := 3) sc_law_compute.nd rfl (Or.inl rfl) (pe_and (pe_cmpR op_inS (pv 0) (pe_tup (pa_cons pe_str (pa_cons pe_str (pa_cons pe_str pa_nil)))) rfl) (pe_one (pe_cmpR op_eq (pv 2) pe_int (nomark _)))))
      (pss_cons (ps_set (i := 4) sc_law_compute.nd rfl (Or.inl rfl) pe_int)
      (C8.pss_cut (ps_if (pt_not (pt_val (pv 3))) (pss_one (ps_set (i := 4) sc_law_compute.nd rfl (Or.inl rfl) (pe_call G_law_due (hr.mono (by decide)) rfl T.g__law_due T.k__law_due T.bd__law_due .nil pass0 (pa_cons (pv 0) (pa_cons (pv 1) (pa_cons (pv 2) pa_nil)))))) pss_nil)
      (C8.pss_cut (ps_set (i := 5) sc_law_compute.nd rfl (Or.inl rfl) (pe_or (pe_cmpR op_lt (pv 4) (pe_un un_neg pe_int) (nomark _)) (pe_one (pe_cmpR op_gt (pv 4) pe_int (nomark _)))))
      (pss_cons (ps_tryA rfl rfl takes0 (fun W pn xe tk _ => (pss_one (ps_set (i := 6) sc_law_compute.nd rfl (Or.inl rfl) (pe_callS G_compute (hr.mono (by decide)) rfl T.g_compute T.k_compute T.bd_compute (fun σ => passAt tk σ) (pa_cons (pv 0) (pa_cons (pv 1) (pa_cons (pv 2) pa_nil))))))) (.named (i := 7) ⟨rfl, by decide, Or.inl T.g_Overflow⟩ sc_law_compute.nd rfl rfl (fun av oe cls dd pn hz hf => (pss_one (ps_ret (pe_and (pv 5) (pe_and (pe_not (pe_callB (call_isEx hz hf) (by rfl) T.b_isinstance (by decide +kernel) (pa_cons (pv 7) (pa_cons (pe_glob (v := .ref a.C_DivisionByZero) rfl T.g_DivisionByZero rfl) pa_nil)))) (pe_one (pe_callB (call_isEx hz hf) (by rfl) T.b_isinstance (by decide +kernel) (pa_cons (pv 7) (pa_cons (pe_glob (v := .ref a.C_AdaError) rfl T.g_AdaError rfl) pa_nil))))))))) (.named (i := 7) ⟨rfl, by decide, Or.inl T.g_DivisionByZero⟩ sc_law_compute.nd rfl rfl (fun av oe cls dd pn hz hf => (pss_one (ps_ret (pe_and (pv 3) (pe_and (pe_not (pe_callB (call_isEx hz hf) (by rfl) T.b_isinstance (by decide +kernel) (pa_cons (pv 7) (pa_cons (pe_glob (v := .ref a.C_Overflow) rfl T.g_Overflow rfl) pa_nil)))) (pe_one (pe_callB (call_isEx hz hf) (by rfl) T.b_isinstance (by decide +kernel) (pa_cons (pv 7) (pa_cons (pe_glob (v := .ref a.C_AdaError) rfl T.g_AdaError rfl) pa_nil))))))))) .nil)))
      (pss_one (ps_ret (pe_and (pe_not (pv 3)) (pe_and (pe_not (pv 5)) (pe_and (pe_call G_law_is_integer (hr.mono (by decide)) rfl T.g__law_is_integer T.k__law_is_integer T.bd__law_is_integer .nil pass0 (pa_cons (pv 6) pa_nil)) (pe_one (pe_cmpR op_eq (pv 6) (pv 4) (nomark _))))))))))))), ?_⟩
    refine ⟨fun σ H1 => Same H H1 ∧ σ = [some (.str (nmS k)), some (.int l), some (.int r), some (.bl (zb k r)), none, none, none, none], ?_, ?_⟩
    · refine ⟨_, rfl, (by decide), fun p np => ⟨_, _, rfl, .inr (SqT.of upd_same), rfl, rfl, _, rfl, ?_⟩⟩
      rw [nin2 ⟨k, hk⟩]
      refine ite3 (fun e => ?_) (fun e => ?_)
      · refine ⟨_, rfl, rfl, sN (Same.refl H) np, ?_⟩
        rw [zb_in (of_decide_eq_true e)]
        rfl
      · refine ⟨sN (Same.refl H) np, ?_⟩
        rw [zb_out (of_decide_eq_false e)]
        rfl
    rintro σ H1 ⟨s1, rfl⟩
    refine ⟨fun σ H1 => Same H H1 ∧ σ = [some (.str (nmS k)), some (.int l), some (.int r), some (.bl (zb k r)), some (.int (dueV k l r)), none, none, none], ?_, ?_⟩
    · refine ⟨_, rfl, _, rfl, ite3 (fun e => ?_) (fun e => ?_)⟩
      · have hz : zb k r = false := by simpa using e
        refine ⟨_, rfl, _, rfl, _, rfl, k, l, r, hk, rfl, hl, hr', of_decide_eq_false (p := (3 ≤ k ∧ k < 6) ∧ r = 0) hz, fun H2 s2 => ⟨s1.trans s2, ?_⟩⟩
        rw [show dueV k l r = resC k l r from if_neg (by rw [hz]; exact Bool.false_ne_true)]
        rfl
      · have hz : zb k r = true := by simpa using e
        refine ⟨s1, ?_⟩
        rw [show dueV k l r = 0 from if_pos hz]
        rfl
    clear s1
    rintro σ H2 ⟨s2, rfl⟩
    refine ⟨fun σ H1 => Same H H1 ∧ σ = [some (.str (nmS k)), some (.int l), some (.int r), some (.bl (zb k r)), some (.int (dueV k l r)), some (.bl (!isW (dueV k l r))), none, none], ?_, ?_⟩
    · refine ⟨_, rfl, _, rfl, _, _, rfl, rfl, _, rfl, ite3 (fun e => ?_) (fun e => ?_)⟩
      · refine ⟨s2, ?_⟩
        rw [isW_not, show decide (dueV k l r < -2147483648) = true from e]
        rfl
      · refine ⟨_, rfl, _, _, rfl, rfl, s2, ?_⟩
        rw [isW_not, show decide (dueV k l r < -2147483648) = false from e]
        rfl
    clear s2
    rintro σ H3 ⟨s3, rfl⟩
    refine ⟨_, rfl, _, rfl, _, rfl, k, l, r, hk, rfl, hl, hr', fun hz H4 s4 => ?_, fun hz H4 s4 => ⟨fun hw => ?_, fun hw => ?_⟩⟩
    · have hzb : zb k r = true := decide_eq_true (p := (3 ≤ k ∧ k < 6) ∧ r = 0) hz
      refine ⟨false, T.e_DivisionByZero_Overflow, (fun z => nomatch z), fun _ => ⟨true, T.e_DivisionByZero_DivisionByZero, fun _ av nav => ?_, (fun z => nomatch z)⟩⟩
      rw [hzb]
      refine ⟨_, rfl, _, rfl, iteT ?_⟩
      refine ⟨_, rfl, _, rfl, rfl, T.ec_DivisionByZero, _, _, _, rfl, fun u hu => hu, T.i_DivisionByZero_Overflow, _, rfl, _, rfl, iteT ?_⟩
      exact ⟨_, rfl, _, rfl, rfl, T.ec_DivisionByZero, _, _, _, rfl, fun u hu => hu, T.i_DivisionByZero_AdaError, q _ (s3.trans s4)⟩
    · have hzb : zb k r = false := decide_eq_false (p := (3 ≤ k ∧ k < 6) ∧ r = 0) hz
      have hd : dueV k l r = resC k l r := if_neg (by rw [hzb]; exact Bool.false_ne_true)
      rw [hd, hzb, hw]
      refine ⟨_, rfl, _, rfl, _, rfl, iteT ⟨_, rfl, _, rfl, _, rfl, iteT ?_⟩⟩
      refine ⟨_, rfl, _, rfl, _, rfl, iteT ?_⟩
      refine ⟨_, rfl, _, rfl, rfl, ?_⟩
      rw [show decide (V.int (resC k l r) = V.int (resC k l r)) = true from decide_eq_true rfl]
      exact q _ (s3.trans s4)
    · have hzb : zb k r = false := decide_eq_false (p := (3 ≤ k ∧ k < 6) ∧ r = 0) hz
      have hd : dueV k l r = resC k l r := if_neg (by rw [hzb]; exact Bool.false_ne_true)
      rw [hd, hzb, hw]
      refine ⟨true, T.e_Overflow_Overflow, fun _ av nav => ?_, (fun z => nomatch z)⟩
      refine ⟨_, rfl, _, rfl, iteT ?_⟩
      refine ⟨_, rfl, _, rfl, rfl, T.ec_Overflow, _, _, _, rfl, fun u hu => hu, T.i_Overflow_DivisionByZero, _, rfl, _, rfl, iteT ?_⟩
      exact ⟨_, rfl, _, rfl, rfl, T.ec_Overflow, _, _, _, rfl, fun u hu => hu, T.i_Overflow_AdaError, q _ (s3.trans s4)⟩
theorem x4 (j : Nat) (h : j < 4) : ∃ x, [V.int (-1048576), V.int 1048575, V.int 0, V.int (-1)][j]? = some (V.int x) := by
  match j, h with
  | 0, _ => exact ⟨_, rfl⟩
  | 1, _ => exact ⟨_, rfl⟩
  | 2, _ => exact ⟨_, rfl⟩
  | 3, _ => exact ⟨_, rfl⟩
theorem neF {x y : Int} (h : x = y) : (!decide (V.int x = V.int y)) = false := by rw [h]; simp
theorem ok_law_halves (T : Txt w K mg a) : FnOk P w K mg base CX0 3 a.f_law_halves a.d_law_halves ["state"] (spHalves K) := by
  have G_law_pick : FnOk P w K mg base CX0 1 _ _ _ _ := ok_law_pick T
  have G_law_word : FnOk P w K mg base CX0 2 _ _ _ _ := ok_law_word T
  have G_law_is_integer : FnOk P w K mg base CX0 1 _ _ _ _ := ok_law_is_integer T
  have G_high_word : FnOk P w K mg base CX0 1 _ _ _ _ := ok_high_word T
  have G_low_word : FnOk P w K mg base CX0 1 _ _ _ _ := ok_low_word T
  have hdv : ∀ i, CDivW i 2048 := fun i => wide_div (b := 62) (by decide) (by decide) (by decide) (by decide)
  have hcm : ∀ i, CMul i 2048 := fun i => .inr ⟨by decide, by decide⟩
  refine T.F__law_halves.ok sc_law_halves (fun vs H Q E h => ?_) (fun cdv A outer s H vs Q E hr h => ?_)
  · obtain ⟨_, _, _, rfl, _⟩ := h; rfl
  · obtain ⟨st, sa, ns, rfl, S, q⟩ := h
    refine ⟨_, (pss_cons (ps_set (i := 1) sc_law_halves.nd rfl (Or.inl rfl) (pe_op op_sub (pe_call G_law_pick (hr.mono (by decide)) rfl T.g__law_pick T.k__law_pick T.bd__law_pick .nil pass0 (pa_cons (pv 0) (pa_cons pe_int pa_nil))) pe_int))
      (C8.pss_cut (ps_if (pt_cmpR op_eq (pe_call G_law_pick (hr.mono (by decide)) rfl T.g__law_pick T.k__law_pick T.bd__law_pick .nil pass0 (pa_cons (pv 0) (pa_cons pe_int pa_nil))) pe_int (nomark _)) (pss_one (ps_set (i := 1) sc_law_halves.nd rfl (Or.inl rfl) (pe_ix ix_list (pe_lst (pa_cons (pe_un un_neg pe_int) (pa_cons pe_int (pa_cons pe_int (pa_cons (pe_un un_neg pe_int) pa_nil))))) (pe_call G_law_pick (hr.mono (by decide)) rfl T.g__law_pick T.k__law_pick T.bd__law_pick .nil pass0 (pa_cons (pv 0) (pa_cons pe_int pa_nil))) (fun _ _ => rfl)))) pss_nil)
      (pss_cons (ps_set (i := 2) sc_law_halves.nd rfl (Or.inl rfl) (pe_call G_law_pick (hr.mono (by decide)) rfl T.g__law_pick T.k__law_pick T.bd__law_pick .nil pass0 (pa_cons (pv 0) (pa_cons pe_int pa_nil))))
      (pss_cons (ps_set (i := 3) sc_law_halves.nd rfl (Or.inl rfl) (pe_call G_high_word (hr.mono (by decide)) rfl T.g_high_word T.k_high_word T.bd_high_word .nil pass0 (pa_cons (pv 1) pa_nil)))
      (pss_cons (ps_if (PW.pt (pw_or (pt_not (pt_val (pe_call G_law_is_integer (hr.mono (by decide)) rfl T.g__law_is_integer T.k__law_is_integer T.bd__law_is_integer .nil pass0 (pa_cons (pv 3) pa_nil)))) (pw_or1 (pt_cmpR op_ne (pv 3) (pe_op op_mul (pv 1) pe_int) (nomark _))))) (pss_one (ps_ret pe_bl)) pss_nil)
      (pss_cons (ps_set (i := 4) sc_law_halves.nd rfl (Or.inl rfl) (pe_call G_law_word (hr.mono (by decide)) rfl T.g__law_word T.k__law_word T.bd__law_word .nil pass0 (pa_cons (pv 0) pa_nil)))
      (pss_cons (ps_set (i := 5) sc_law_halves.nd rfl (Or.inl rfl) (pe_call G_low_word (hr.mono (by decide)) rfl T.g_low_word T.k_low_word T.bd_low_word .nil pass0 (pa_cons (pv 4) (pa_cons (pv 2) pa_nil))))
      (pss_cons (ps_if (PW.pt (pw_or (pt_not (pt_val (pe_call G_law_is_integer (hr.mono (by decide)) rfl T.g__law_is_integer T.k__law_is_integer T.bd__law_is_integer .nil pass0 (pa_cons (pv 5) pa_nil)))) (pw_or1 (pt_cmpR op_ne (pv 5) (pe_op op_add (pe_op op_mul (pe_op op_fdivW (pv 4) pe_int) pe_int) (pv 2)) (nomark _))))) (pss_one (ps_ret pe_bl)) pss_nil)
      (pss_cons (ps_set (i := 6) sc_law_halves.nd rfl (Or.inl rfl) (pe_call G_low_word (hr.mono (by decide)) rfl T.g_low_word T.k_low_word T.bd_low_word .nil pass0 (pa_cons (pe_call G_high_word (hr.mono (by decide)) rfl T.g_high_word T.k_high_word T.bd_high_word .nil pass0 (pa_cons (pe_op op_fdivW (pv 4) pe_int) pa_nil)) (pa_cons (pe_op op_sub (pv 4) (pe_op op_mul (pe_op op_fdivW (pv 4) pe_int) pe_int)) pa_nil))))
      (pss_one (ps_ret (pe_and (pe_call G_law_is_integer (hr.mono (by decide)) rfl T.g__law_is_integer T.k__law_is_integer T.bd__law_is_integer .nil pass0 (pa_cons (pv 6) pa_nil)) (pe_one (pe_cmpR op_eq (pv 6) (pv 4) (nomark _))))))))))))))), ?_⟩
    refine ⟨_, rfl, st, sa, ns, 2097152, rfl, S, by decide, by decide, fun k H1 k0 k7 S1 F1 => ⟨_, _, rfl, rfl, ?_⟩⟩
    refine ⟨fun σ H2 => StP K H2 st sa ns ∧ Frm [st] H H2 ∧ ∃ n : Int, σ = [some (.ref st), some (.int n), none, none, none, none, none], ?_, ?_⟩
    · refine ⟨_, rfl, st, sa, ns, 3, rfl, S1, by decide, by decide, fun c H2 c0 c7 S2 F2 => ⟨rfl, _, rfl, ite3 (fun e => ?_) (fun e => ?_)⟩⟩
      · refine ⟨_, rfl, _, rfl, (by show 4 ≤ sizeLine; decide), fun p np => ⟨_, rfl, st, sa, ns, 4, rfl, S2.same (sN (Same.refl _) np), by decide, by decide, fun v H3 v0 v1 S3 F3 => ?_⟩⟩
        obtain ⟨j, rfl⟩ : ∃ j : Nat, v = (j : Int) := ⟨v.toNat, by omega⟩
        obtain ⟨x, hx⟩ := x4 j (by omega)
        obtain ⟨_, _, _, _, hst⟩ := S2.at'
        have hp := fr1 F3 upd_same (ne_of_none hst np).symm
        exact ⟨_, _, _, _, rfl, rfl, SqL.of hp, atI_nat hx, S3, ((F1.trans F2).new np).trans F3, _, rfl⟩
      · exact ⟨S2, F1.trans F2, _, rfl⟩
    clear S1 F1
    rintro σ H2 ⟨S2, F2, n, rfl⟩
    refine ⟨_, rfl, st, sa, ns, 2048, rfl, S2, by decide, by decide, fun m H3 m0 m1 S3 F3 => ?_⟩
    refine ⟨_, rfl, n, rfl, ?_⟩
    refine ⟨_, rfl, _, rfl, _, rfl, iteF ⟨_, rfl, _, rfl, _, _, rfl, rfl, hcm _, rfl, _, rfl, ?_⟩⟩
    rw [neF rfl]
    refine iteF ?_
    refine ⟨_, rfl, st, sa, ns, rfl, S3, fun wv H4 hw S4 F4 => ?_⟩
    refine ⟨_, rfl, _, rfl, wv, m, rfl, ?_⟩
    have e0 := Int.mul_ediv_add_emod wv 2048
    refine ⟨_, rfl, _, rfl, _, rfl, iteF ⟨_, rfl, _, rfl, _, _, rfl, rfl, hdv _, _, _, rfl, rfl, hcm _, _, rfl, _, _, rfl, rfl, rfl, _, rfl, ?_⟩⟩
    rw [neF (show wv - wv % 2048 + m = wv / 2048 * 2048 + m by omega)]
    refine iteF ?_
    refine ⟨_, rfl, _, _, rfl, rfl, hdv _, wv / 2048, rfl, _, rfl, _, rfl, _, _, rfl, rfl, hdv _, _, _, rfl, rfl, hcm _, _, _, rfl, rfl, wv / 2048 * 2048, wv - wv / 2048 * 2048, rfl, ?_⟩
    refine ⟨_, rfl, _, rfl, _, rfl, iteT ⟨_, rfl, _, rfl, rfl, ?_⟩⟩
    rw [show decide (V.int (wv / 2048 * 2048 - wv / 2048 * 2048 % 2048 + (wv - wv / 2048 * 2048)) = V.int wv) = true by
      have : wv / 2048 * 2048 % 2048 = 0 := by omega
      rw [this, show wv / 2048 * 2048 - 0 + (wv - wv / 2048 * 2048) = wv by omega]
      exact decide_eq_true rfl]
    exact q _ S4 ((F2.trans F3).trans F4)
theorem ok_law (T : Txt w K mg a) : FnOk P w K mg base CX0 8 a.f_law a.d_law ["script"] (spLaw K) := by
  have G_law_pick : FnOk P w K mg base CX0 1 _ _ _ _ := ok_law_pick T
  have G_law_word : FnOk P w K mg base CX0 2 _ _ _ _ := ok_law_word T
  have G_law_compute : FnOk P w K mg base CX0 6 _ _ _ _ := ok_law_compute T
  have G_law_halves : FnOk P w K mg base CX0 3 _ _ _ _ := ok_law_halves T
  refine T.F_law.ok sc_law (fun vs H Q E h => ?_) (fun cdv A outer s H vs Q E hr h => ?_)
  · obtain ⟨_, _, rfl, _⟩ := h; rfl
  · obtain ⟨sa, ns, rfl, hS, hlen, q⟩ := h
    refine ⟨_, (pss_cons (ps_set (i := 1) sc_law.nd rfl (Or.inl rfl) (pe_lst (pa_cons (pv 0) (pa_cons pe_int (pa_cons pe_int (pa_cons pe_int pa_nil))))))
      (pss_cons (ps_set (i := 2) sc_law.nd rfl (Or.inl rfl) (pe_lst (pa_cons pe_str (pa_cons pe_str (pa_cons pe_str (pa_cons pe_str (pa_cons pe_str (pa_cons pe_str (pa_cons pe_str (pa_cons pe_str pa_nil))))))))))
      (pss_cons (ps_for PassesOwn.never rfl (pi_range1 rfl T.b_range (pa_cons (pe_op op_add pe_int (pe_call G_law_pick (hr.mono (by decide)) rfl T.g__law_pick T.k__law_pick T.bd__law_pick .nil pass0 (pa_cons (pv 1) (pa_cons pe_int pa_nil)))) pa_nil)) (pg_name (i := 3) sc_law.nd rfl (Or.inl rfl)) (pss_cons (ps_set (i := 4) sc_law.nd rfl (Or.inl rfl) (pe_ix ix_list (pv 2) (pe_call G_law_pick (hr.mono (by decide)) rfl T.g__law_pick T.k__law_pick T.bd__law_pick .nil pass0 (pa_cons (pv 1) (pa_cons pe_int pa_nil))) (fun _ _ => rfl)))
      (pss_cons (ps_set (i := 5) sc_law.nd rfl (Or.inl rfl) (pe_call G_law_word (hr.mono (by decide)) rfl T.g__law_word T.k__law_word T.bd__law_word .nil pass0 (pa_cons (pv 1) pa_nil)))
      (pss_cons (ps_set (i := 6) sc_law.nd rfl (Or.inl rfl) (pe_call G_law_word (hr.mono (by decide)) rfl T.g__law_word T.k__law_word T.bd__law_word .nil pass0 (pa_cons (pv 1) pa_nil)))
      (C8.pss_cut (ps_if (pt_cmpR op_eq (pe_call G_law_pick (hr.mono (by decide)) rfl T.g__law_pick T.k__law_pick T.bd__law_pick .nil pass0 (pa_cons (pv 1) (pa_cons pe_int pa_nil))) pe_int (nomark _)) (pss_one (ps_set (i := 6) sc_law.nd rfl (Or.inl rfl) (pv 5))) pss_nil)
      (pss_one (ps_if (pt_not (pt_val (pe_call G_law_compute (hr.mono (by decide)) rfl T.g__law_compute T.k__law_compute T.bd__law_compute .nil pass0 (pa_cons (pv 4) (pa_cons (pv 5) (pa_cons (pv 6) pa_nil)))))) (pss_one (ps_ret pe_bl)) pss_nil)))))))
      (pss_cons (ps_for PassesOwn.never rfl (pi_range1 rfl T.b_range (pa_cons (pe_op op_add pe_int (pe_call G_law_pick (hr.mono (by decide)) rfl T.g__law_pick T.k__law_pick T.bd__law_pick .nil pass0 (pa_cons (pv 1) (pa_cons pe_int pa_nil)))) pa_nil)) (pg_name (i := 3) sc_law.nd rfl (Or.inl rfl)) (pss_one (ps_if (pt_not (pt_val (pe_call G_law_halves (hr.mono (by decide)) rfl T.g__law_halves T.k__law_halves T.bd__law_halves .nil pass0 (pa_cons (pv 1) pa_nil)))) (pss_one (ps_ret pe_bl)) pss_nil)))
      (pss_one (ps_ret pe_bl)))))), ?_⟩
    refine ⟨_, rfl, (by show 4 ≤ sizeLine; decide), fun st nst => ?_⟩
    have s0 := sN (Same.refl H) nst (o := .lst [V.ref sa, V.int 0, V.int 0, V.int 0])
    have S0 : StP K (upd H st (.lst [V.ref sa, V.int 0, V.int 0, V.int 0])) st sa ns := ⟨⟨0, 0, 0, by decide, upd_same⟩, s0.seq hS, apt_new hS nst⟩
    refine ⟨(by show 8 ≤ sizeLine; decide), fun nm nnm => ?_⟩
    have S1 := S0.same (sN (Same.refl _) nnm (o := .lst [V.str "add", V.str "sub", V.str "mul", V.str "div", V.str "mod", V.str "rem", V.str "less", V.str "equal"]))
    have nns : nm ≠ st := (ne_of_none upd_same nnm).symm
    refine ⟨_, rfl, st, sa, ns, 15, rfl, S1, by decide, by decide, fun v H1 v0 v1 S2 F2 => ⟨_, _, rfl, rfl, _, rfl, by omega, by omega, ?_⟩⟩
    refine for_range (lo := 0) (n := (1 + v).toNat) (fun _ σ H' => StP K H' st sa ns ∧ H' nm = some (.lst [V.str "add", V.str "sub", V.str "mul", V.str "div", V.str "mod", V.str "rem", V.str "less", V.str "equal"]) ∧ ∃ x1 x2 x3 x4, σ = [some (.ref sa), some (.ref st), some (.ref nm), x1, x2, x3, x4])
      ⟨S2, fr1 F2 upd_same nns, none, none, none, none, rfl⟩ ?_ ?_
    · rintro i σ H2 hi ⟨S3, hn, x1, x2, x3, x4, rfl⟩
      refine ⟨_, rfl, _, rfl, st, sa, ns, 8, rfl, S3, by decide, by decide, fun j H3 j0 j1 S4 F4 => ?_⟩
      obtain ⟨k, rfl⟩ : ∃ k : Nat, j = (k : Int) := ⟨j.toNat, by omega⟩
      have hk : k < 8 := by omega
      have hn4 := fr1 F4 hn nns
      refine ⟨_, _, _, _, rfl, rfl, SqL.of hn4, atI_nat (nm_at ⟨k, hk⟩), ?_⟩
      refine ⟨_, rfl, st, sa, ns, rfl, S4, fun l H5 hl S5 F5 => ⟨_, rfl, st, sa, ns, rfl, S5, fun r H6 hr' S6 F6 => ?_⟩⟩
      have hn6 := fr1 F6 (fr1 F5 hn4 nns) nns
      refine ⟨fun σ H' => StP K H' st sa ns ∧ H' nm = some (.lst [V.str "add", V.str "sub", V.str "mul", V.str "div", V.str "mod", V.str "rem", V.str "less", V.str "equal"]) ∧ ∃ x1 r, wd r ∧ σ = [some (.ref sa), some (.ref st), some (.ref nm), x1, some (.str (nmS k)), some (.int l), some (.int r)], ?_, ?_⟩
      · refine ⟨_, rfl, st, sa, ns, 6, rfl, S6, by decide, by decide, fun c H7 c0 c1 S7 F7 => ⟨rfl, _, rfl, ite3 (fun e => ?_) (fun e => ?_)⟩⟩
        · exact ⟨_, rfl, S7, fr1 F7 hn6 nns, _, l, hl, rfl⟩
        · exact ⟨S7, fr1 F7 hn6 nns, _, r, hr', rfl⟩
      rintro σ H7 ⟨S7, hn7, y1, r', hr2, rfl⟩
      refine ⟨_, rfl, _, rfl, _, rfl, k, l, r', hk, rfl, hl, hr2, fun H8 s8 => ⟨_, rfl, iteF ?_⟩⟩
      exact ⟨S7.same s8, s8 _ _ hn7, _, _, _, _, rfl⟩
    · rintro σ H2 ⟨S3, hn, x1, x2, x3, x4, rfl⟩
      refine ⟨_, rfl, st, sa, ns, 15, rfl, S3, by decide, by decide, fun v H3 v0 v1 S4 F4 => ⟨_, _, rfl, rfl, _, rfl, by omega, by omega, ?_⟩⟩
      refine for_range (lo := 0) (n := (1 + v).toNat) (fun _ σ H' => StP K H' st sa ns ∧ ∃ x1, σ = [some (.ref sa), some (.ref st), some (.ref nm), x1, x2, x3, x4]) ⟨S4, _, rfl⟩ ?_ ?_
      · rintro i σ H4 hi ⟨S5, x1, rfl⟩
        refine ⟨_, rfl, st, sa, ns, rfl, S5, fun H5 S6 F6 => ⟨_, rfl, iteF ⟨S6, _, rfl⟩⟩⟩
      · rintro σ H4 ⟨S5, x1, rfl⟩
        exact q _
end

theorem all_mk {l : PySem.W.OpenLaw} {w : World} {K : PySem.W.Frag} {h : Heap} {mg : Str → Option Value} {fa : Addr} (X : K.In h) (G : h.Ns mainGlobals mg) (hfa : mg "law" = some (.ref fa))
    {C_AdaError : Addr} (aC_AdaError : PySem.W.nsIn K mainGlobals "AdaError" = some (some (.ref C_AdaError)))
    (x_AdaError : PySem.W.excIn K C_AdaError [.type "ValueError", .type "Exception", .type "BaseException", .type "object"] "ValueError.__new__" = true) (kC_AdaError : PySem.W.keepIn K (.ref C_AdaError) = true) (s1_AdaError : PySem.W.subIn K (.ref C_AdaError) (.type "BaseException") = some true) (ty_AdaError : PySem.W.typeIn K (.ref C_AdaError) = some (.type "type")) (ic_AdaError : PySem.W.isClsIn K C_AdaError = true)
    {C_Overflow : Addr} (aC_Overflow : PySem.W.nsIn K mainGlobals "Overflow" = some (some (.ref C_Overflow)))
    (x_Overflow : PySem.W.excIn K C_Overflow [.type "ValueError", .type "Exception", .type "BaseException", .type "object"] "ValueError.__new__" = true) (kC_Overflow : PySem.W.keepIn K (.ref C_Overflow) = true) (s1_Overflow : PySem.W.subIn K (.ref C_Overflow) (.type "BaseException") = some true) (ty_Overflow : PySem.W.typeIn K (.ref C_Overflow) = some (.type "type")) (ic_Overflow : PySem.W.isClsIn K C_Overflow = true)
    (h1_Overflow : PySem.W.findIn K (.ref C_Overflow) "__getattribute__" = some (some (.builtin "BaseException.__getattribute__"))) (h2_Overflow : PySem.W.findIn K (.ref C_Overflow) "__getattr__" = some none) (h3_Overflow : PySem.W.hasDictIn K C_Overflow = true) (h4_Overflow : PySem.W.findIn K (.ref C_Overflow) "__class__" = some (some (.builtin "object.__class__"))) (h5_Overflow : PySem.W.specialIn K (.builtin "object.__class__") "__get__" = some (some (.builtin "getset_descriptor.__get__"))) (h6_Overflow : PySem.W.takesIn K (.builtin "object.__class__") = some true) (h7_Overflow : PySem.W.mroIn K C_Overflow (.type "object") = some true)
    {C_DivisionByZero : Addr} (aC_DivisionByZero : PySem.W.nsIn K mainGlobals "DivisionByZero" = some (some (.ref C_DivisionByZero)))
    (x_DivisionByZero : PySem.W.excIn K C_DivisionByZero [.type "ValueError", .type "Exception", .type "BaseException", .type "object"] "ValueError.__new__" = true) (kC_DivisionByZero : PySem.W.keepIn K (.ref C_DivisionByZero) = true) (s1_DivisionByZero : PySem.W.subIn K (.ref C_DivisionByZero) (.type "BaseException") = some true) (ty_DivisionByZero : PySem.W.typeIn K (.ref C_DivisionByZero) = some (.type "type")) (ic_DivisionByZero : PySem.W.isClsIn K C_DivisionByZero = true)
    (h1_DivisionByZero : PySem.W.findIn K (.ref C_DivisionByZero) "__getattribute__" = some (some (.builtin "BaseException.__getattribute__"))) (h2_DivisionByZero : PySem.W.findIn K (.ref C_DivisionByZero) "__getattr__" = some none) (h3_DivisionByZero : PySem.W.hasDictIn K C_DivisionByZero = true) (h4_DivisionByZero : PySem.W.findIn K (.ref C_DivisionByZero) "__class__" = some (some (.builtin "object.__class__"))) (h5_DivisionByZero : PySem.W.specialIn K (.builtin "object.__class__") "__get__" = some (some (.builtin "getset_descriptor.__get__"))) (h6_DivisionByZero : PySem.W.takesIn K (.builtin "object.__class__") = some true) (h7_DivisionByZero : PySem.W.mroIn K C_DivisionByZero (.type "object") = some true)
    (e_Overflow_Overflow : PySem.W.subIn K (.ref C_Overflow) (.ref C_Overflow) = some true)
    (e_DivisionByZero_Overflow : PySem.W.subIn K (.ref C_DivisionByZero) (.ref C_Overflow) = some false)
    (e_DivisionByZero_DivisionByZero : PySem.W.subIn K (.ref C_DivisionByZero) (.ref C_DivisionByZero) = some true)
    (zz_DivisionByZero : PySem.W.subIn K (.ref C_DivisionByZero) (.ref C_DivisionByZero) = some true)
    (zz_Overflow : PySem.W.subIn K (.ref C_Overflow) (.ref C_Overflow) = some true)
    (i_Overflow_DivisionByZero : PySem.W.subIn K (.ref C_Overflow) (.ref C_DivisionByZero) = some false)
    (i_Overflow_AdaError : PySem.W.subIn K (.ref C_Overflow) (.ref C_AdaError) = some true)
    (i_DivisionByZero_Overflow : PySem.W.subIn K (.ref C_DivisionByZero) (.ref C_Overflow) = some false)
    (i_DivisionByZero_AdaError : PySem.W.subIn K (.ref C_DivisionByZero) (.ref C_AdaError) = some true)
    {f_fits : Addr} {oc_fits : Value} {od_fits an_fits : Option Addr} {sl_fits : Array (Option Value)} {kV_fits dc_fits pm_fits cd_fits ct_fits : Value}
    (a_fits : PySem.W.nsIn K mainGlobals "fits" = some (some (.ref f_fits)))
    (l_fits : K.lookup f_fits = some ⟨oc_fits, od_fits, .func (PySem.W.fnOf "fits" "fits" (defArgs s_fits) (defBody s_fits) (defScope s_fits) .none kV_fits dc_fits pm_fits an_fits cd_fits ct_fits), sl_fits⟩)
    (c_fits : PySem.W.codeIn K cd_fits "fits" = true)
    (k_fits : PySem.W.keepIn K (.ref f_fits) = true)
    {f_arithmetic : Addr} {oc_arithmetic : Value} {od_arithmetic an_arithmetic : Option Addr} {sl_arithmetic : Array (Option Value)} {kV_arithmetic dc_arithmetic pm_arithmetic cd_arithmetic ct_arithmetic : Value}
    (a_arithmetic : PySem.W.nsIn K mainGlobals "arithmetic" = some (some (.ref f_arithmetic)))
    (l_arithmetic : K.lookup f_arithmetic = some ⟨oc_arithmetic, od_arithmetic, .func (PySem.W.fnOf "arithmetic" "arithmetic" (defArgs s_arithmetic) (defBody s_arithmetic) (defScope s_arithmetic) .none kV_arithmetic dc_arithmetic pm_arithmetic an_arithmetic cd_arithmetic ct_arithmetic), sl_arithmetic⟩)
    (c_arithmetic : PySem.W.codeIn K cd_arithmetic "arithmetic" = true)
    (k_arithmetic : PySem.W.keepIn K (.ref f_arithmetic) = true)
    {f_compare : Addr} {oc_compare : Value} {od_compare an_compare : Option Addr} {sl_compare : Array (Option Value)} {kV_compare dc_compare pm_compare cd_compare ct_compare : Value}
    (a_compare : PySem.W.nsIn K mainGlobals "compare" = some (some (.ref f_compare)))
    (l_compare : K.lookup f_compare = some ⟨oc_compare, od_compare, .func (PySem.W.fnOf "compare" "compare" (defArgs s_compare) (defBody s_compare) (defScope s_compare) .none kV_compare dc_compare pm_compare an_compare cd_compare ct_compare), sl_compare⟩)
    (c_compare : PySem.W.codeIn K cd_compare "compare" = true)
    (k_compare : PySem.W.keepIn K (.ref f_compare) = true)
    {f_word : Addr} {oc_word : Value} {od_word an_word : Option Addr} {sl_word : Array (Option Value)} {kV_word dc_word pm_word cd_word ct_word : Value}
    (a_word : PySem.W.nsIn K mainGlobals "_word" = some (some (.ref f_word)))
    (l_word : K.lookup f_word = some ⟨oc_word, od_word, .func (PySem.W.fnOf "_word" "_word" (defArgs s_word) (defBody s_word) (defScope s_word) .none kV_word dc_word pm_word an_word cd_word ct_word), sl_word⟩)
    (c_word : PySem.W.codeIn K cd_word "_word" = true)
    (k_word : PySem.W.keepIn K (.ref f_word) = true)
    {f_result : Addr} {oc_result : Value} {od_result an_result : Option Addr} {sl_result : Array (Option Value)} {kV_result dc_result pm_result cd_result ct_result : Value}
    (a_result : PySem.W.nsIn K mainGlobals "_result" = some (some (.ref f_result)))
    (l_result : K.lookup f_result = some ⟨oc_result, od_result, .func (PySem.W.fnOf "_result" "_result" (defArgs s_result) (defBody s_result) (defScope s_result) .none kV_result dc_result pm_result an_result cd_result ct_result), sl_result⟩)
    (c_result : PySem.W.codeIn K cd_result "_result" = true)
    (k_result : PySem.W.keepIn K (.ref f_result) = true)
    {f_quotient : Addr} {oc_quotient : Value} {od_quotient an_quotient : Option Addr} {sl_quotient : Array (Option Value)} {kV_quotient dc_quotient pm_quotient cd_quotient ct_quotient : Value}
    (a_quotient : PySem.W.nsIn K mainGlobals "_quotient" = some (some (.ref f_quotient)))
    (l_quotient : K.lookup f_quotient = some ⟨oc_quotient, od_quotient, .func (PySem.W.fnOf "_quotient" "_quotient" (defArgs s_quotient) (defBody s_quotient) (defScope s_quotient) .none kV_quotient dc_quotient pm_quotient an_quotient cd_quotient ct_quotient), sl_quotient⟩)
    (c_quotient : PySem.W.codeIn K cd_quotient "_quotient" = true)
    (k_quotient : PySem.W.keepIn K (.ref f_quotient) = true)
    {f_compute : Addr} {oc_compute : Value} {od_compute an_compute : Option Addr} {sl_compute : Array (Option Value)} {kV_compute dc_compute pm_compute cd_compute ct_compute : Value}
    (a_compute : PySem.W.nsIn K mainGlobals "compute" = some (some (.ref f_compute)))
    (l_compute : K.lookup f_compute = some ⟨oc_compute, od_compute, .func (PySem.W.fnOf "compute" "compute" (defArgs s_compute) (defBody s_compute) (defScope s_compute) .none kV_compute dc_compute pm_compute an_compute cd_compute ct_compute), sl_compute⟩)
    (c_compute : PySem.W.codeIn K cd_compute "compute" = true)
    (k_compute : PySem.W.keepIn K (.ref f_compute) = true)
    {f_high_word : Addr} {oc_high_word : Value} {od_high_word an_high_word : Option Addr} {sl_high_word : Array (Option Value)} {kV_high_word dc_high_word pm_high_word cd_high_word ct_high_word : Value}
    (a_high_word : PySem.W.nsIn K mainGlobals "high_word" = some (some (.ref f_high_word)))
    (l_high_word : K.lookup f_high_word = some ⟨oc_high_word, od_high_word, .func (PySem.W.fnOf "high_word" "high_word" (defArgs s_high_word) (defBody s_high_word) (defScope s_high_word) .none kV_high_word dc_high_word pm_high_word an_high_word cd_high_word ct_high_word), sl_high_word⟩)
    (c_high_word : PySem.W.codeIn K cd_high_word "high_word" = true)
    (k_high_word : PySem.W.keepIn K (.ref f_high_word) = true)
    {f_low_word : Addr} {oc_low_word : Value} {od_low_word an_low_word : Option Addr} {sl_low_word : Array (Option Value)} {kV_low_word dc_low_word pm_low_word cd_low_word ct_low_word : Value}
    (a_low_word : PySem.W.nsIn K mainGlobals "low_word" = some (some (.ref f_low_word)))
    (l_low_word : K.lookup f_low_word = some ⟨oc_low_word, od_low_word, .func (PySem.W.fnOf "low_word" "low_word" (defArgs s_low_word) (defBody s_low_word) (defScope s_low_word) .none kV_low_word dc_low_word pm_low_word an_low_word cd_low_word ct_low_word), sl_low_word⟩)
    (c_low_word : PySem.W.codeIn K cd_low_word "low_word" = true)
    (k_low_word : PySem.W.keepIn K (.ref f_low_word) = true)
    {f_law_pick : Addr} {oc_law_pick : Value} {od_law_pick an_law_pick : Option Addr} {sl_law_pick : Array (Option Value)} {kV_law_pick dc_law_pick pm_law_pick cd_law_pick ct_law_pick : Value}
    (a_law_pick : PySem.W.nsIn K mainGlobals "_law_pick" = some (some (.ref f_law_pick)))
    (l_law_pick : K.lookup f_law_pick = some ⟨oc_law_pick, od_law_pick, .func (PySem.W.fnOf "_law_pick" "_law_pick" (defArgs s_law_pick) (defBody s_law_pick) (defScope s_law_pick) .none kV_law_pick dc_law_pick pm_law_pick an_law_pick cd_law_pick ct_law_pick), sl_law_pick⟩)
    (c_law_pick : PySem.W.codeIn K cd_law_pick "_law_pick" = true)
    (k_law_pick : PySem.W.keepIn K (.ref f_law_pick) = true)
    {f_law_is_integer : Addr} {oc_law_is_integer : Value} {od_law_is_integer an_law_is_integer : Option Addr} {sl_law_is_integer : Array (Option Value)} {kV_law_is_integer dc_law_is_integer pm_law_is_integer cd_law_is_integer ct_law_is_integer : Value}
    (a_law_is_integer : PySem.W.nsIn K mainGlobals "_law_is_integer" = some (some (.ref f_law_is_integer)))
    (l_law_is_integer : K.lookup f_law_is_integer = some ⟨oc_law_is_integer, od_law_is_integer, .func (PySem.W.fnOf "_law_is_integer" "_law_is_integer" (defArgs s_law_is_integer) (defBody s_law_is_integer) (defScope s_law_is_integer) .none kV_law_is_integer dc_law_is_integer pm_law_is_integer an_law_is_integer cd_law_is_integer ct_law_is_integer), sl_law_is_integer⟩)
    (c_law_is_integer : PySem.W.codeIn K cd_law_is_integer "_law_is_integer" = true)
    (k_law_is_integer : PySem.W.keepIn K (.ref f_law_is_integer) = true)
    {f_law_word : Addr} {oc_law_word : Value} {od_law_word an_law_word : Option Addr} {sl_law_word : Array (Option Value)} {kV_law_word dc_law_word pm_law_word cd_law_word ct_law_word : Value}
    (a_law_word : PySem.W.nsIn K mainGlobals "_law_word" = some (some (.ref f_law_word)))
    (l_law_word : K.lookup f_law_word = some ⟨oc_law_word, od_law_word, .func (PySem.W.fnOf "_law_word" "_law_word" (defArgs s_law_word) (defBody s_law_word) (defScope s_law_word) .none kV_law_word dc_law_word pm_law_word an_law_word cd_law_word ct_law_word), sl_law_word⟩)
    (c_law_word : PySem.W.codeIn K cd_law_word "_law_word" = true)
    (k_law_word : PySem.W.keepIn K (.ref f_law_word) = true)
    {f_law_quotient : Addr} {oc_law_quotient : Value} {od_law_quotient an_law_quotient : Option Addr} {sl_law_quotient : Array (Option Value)} {kV_law_quotient dc_law_quotient pm_law_quotient cd_law_quotient ct_law_quotient : Value}
    (a_law_quotient : PySem.W.nsIn K mainGlobals "_law_quotient" = some (some (.ref f_law_quotient)))
    (l_law_quotient : K.lookup f_law_quotient = some ⟨oc_law_quotient, od_law_quotient, .func (PySem.W.fnOf "_law_quotient" "_law_quotient" (defArgs s_law_quotient) (defBody s_law_quotient) (defScope s_law_quotient) .none kV_law_quotient dc_law_quotient pm_law_quotient an_law_quotient cd_law_quotient ct_law_quotient), sl_law_quotient⟩)
    (c_law_quotient : PySem.W.codeIn K cd_law_quotient "_law_quotient" = true)
    (k_law_quotient : PySem.W.keepIn K (.ref f_law_quotient) = true)
    {f_law_due : Addr} {oc_law_due : Value} {od_law_due an_law_due : Option Addr} {sl_law_due : Array (Option Value)} {kV_law_due dc_law_due pm_law_due cd_law_due ct_law_due : Value}
    (a_law_due : PySem.W.nsIn K mainGlobals "_law_due" = some (some (.ref f_law_due)))
    (l_law_due : K.lookup f_law_due = some ⟨oc_law_due, od_law_due, .func (PySem.W.fnOf "_law_due" "_law_due" (defArgs s_law_due) (defBody s_law_due) (defScope s_law_due) .none kV_law_due dc_law_due pm_law_due an_law_due cd_law_due ct_law_due), sl_law_due⟩)
    (c_law_due : PySem.W.codeIn K cd_law_due "_law_due" = true)
    (k_law_due : PySem.W.keepIn K (.ref f_law_due) = true)
    {f_law_compute : Addr} {oc_law_compute : Value} {od_law_compute an_law_compute : Option Addr} {sl_law_compute : Array (Option Value)} {kV_law_compute dc_law_compute pm_law_compute cd_law_compute ct_law_compute : Value}
    (a_law_compute : PySem.W.nsIn K mainGlobals "_law_compute" = some (some (.ref f_law_compute)))
    (l_law_compute : K.lookup f_law_compute = some ⟨oc_law_compute, od_law_compute, .func (PySem.W.fnOf "_law_compute" "_law_compute" (defArgs s_law_compute) (defBody s_law_compute) (defScope s_law_compute) .none kV_law_compute dc_law_compute pm_law_compute an_law_compute cd_law_compute ct_law_compute), sl_law_compute⟩)
    (c_law_compute : PySem.W.codeIn K cd_law_compute "_law_compute" = true)
    (k_law_compute : PySem.W.keepIn K (.ref f_law_compute) = true)
    {f_law_halves : Addr} {oc_law_halves : Value} {od_law_halves an_law_halves : Option Addr} {sl_law_halves : Array (Option Value)} {kV_law_halves dc_law_halves pm_law_halves cd_law_halves ct_law_halves : Value}
    (a_law_halves : PySem.W.nsIn K mainGlobals "_law_halves" = some (some (.ref f_law_halves)))
    (l_law_halves : K.lookup f_law_halves = some ⟨oc_law_halves, od_law_halves, .func (PySem.W.fnOf "_law_halves" "_law_halves" (defArgs s_law_halves) (defBody s_law_halves) (defScope s_law_halves) .none kV_law_halves dc_law_halves pm_law_halves an_law_halves cd_law_halves ct_law_halves), sl_law_halves⟩)
    (c_law_halves : PySem.W.codeIn K cd_law_halves "_law_halves" = true)
    (k_law_halves : PySem.W.keepIn K (.ref f_law_halves) = true)
    {f_law : Addr} {oc_law : Value} {od_law an_law : Option Addr} {sl_law : Array (Option Value)} {kV_law dc_law pm_law cd_law ct_law : Value}
    (a_law : PySem.W.nsIn K mainGlobals "law" = some (some (.ref f_law)))
    (l_law : K.lookup f_law = some ⟨oc_law, od_law, .func (PySem.W.fnOf "law" "law" (defArgs s_law) (defBody s_law) (defScope s_law) .none kV_law dc_law pm_law an_law cd_law ct_law), sl_law⟩)
    (c_law : PySem.W.codeIn K cd_law "law" = true)
    (k_law : PySem.W.keepIn K (.ref f_law) = true)
    {t_MAX : Tok} (a_MAX : PySem.W.nsIn K mainGlobals "MAX" = some (some (.int (2147483647) t_MAX)))
    {t_MIN : Tok} (a_MIN : PySem.W.nsIn K mainGlobals "MIN" = some (some (.int (-2147483648) t_MIN)))
    {t_PART : Tok} (a_PART : PySem.W.nsIn K mainGlobals "PART" = some (some (.int (2048) t_PART)))
    {c_SIGNS : Addr} {es_SIGNS : Array DictEntry} {n_SIGNS : Nat} (a_SIGNS : PySem.W.nsIn K mainGlobals "SIGNS" = some (some (.ref c_SIGNS))) (l_SIGNS : K.lookup c_SIGNS = some ⟨.type "dict", none, .dict es_SIGNS n_SIGNS, #[]⟩) (lit_SIGNS : PySem.W.KeysLit w.params es_SIGNS.toList)
    {t_SIGNS_add : Tok} (v_SIGNS_add : PySem.W.nsIn K c_SIGNS "add" = some (some (.str "+" t_SIGNS_add)))
    {t_SIGNS_sub : Tok} (v_SIGNS_sub : PySem.W.nsIn K c_SIGNS "sub" = some (some (.str "-" t_SIGNS_sub)))
    {t_SIGNS_mul : Tok} (v_SIGNS_mul : PySem.W.nsIn K c_SIGNS "mul" = some (some (.str "*" t_SIGNS_mul)))
    {t_SIGNS_div : Tok} (v_SIGNS_div : PySem.W.nsIn K c_SIGNS "div" = some (some (.str "/" t_SIGNS_div)))
    {t_SIGNS_mod : Tok} (v_SIGNS_mod : PySem.W.nsIn K c_SIGNS "mod" = some (some (.str "mod" t_SIGNS_mod)))
    {t_SIGNS_rem : Tok} (v_SIGNS_rem : PySem.W.nsIn K c_SIGNS "rem" = some (some (.str "rem" t_SIGNS_rem)))
    {t_SIGNS_less : Tok} (v_SIGNS_less : PySem.W.nsIn K c_SIGNS "less" = some (some (.str "<" t_SIGNS_less)))
    {t_SIGNS_equal : Tok} (v_SIGNS_equal : PySem.W.nsIn K c_SIGNS "equal" = some (some (.str "=" t_SIGNS_equal)))
    (z_abs : PySem.W.nsIn K mainGlobals "abs" = some none)
    (z_bool : PySem.W.nsIn K mainGlobals "bool" = some none)
    (z_int : PySem.W.nsIn K mainGlobals "int" = some none)
    (z_isinstance : PySem.W.nsIn K mainGlobals "isinstance" = some none)
    (z_len : PySem.W.nsIn K mainGlobals "len" = some none)
    (z_range : PySem.W.nsIn K mainGlobals "range" = some none) :
    ∃ fd : FuncData, (∀ (s : Shared) (v : Value), BindsTo s fd ⟨[v], []⟩ [("script", v)]) ∧ ∀ base : Heap, K.In base → base.Ns mainGlobals mg → FnOk l.prog w K mg base CX0 8 fa fd ["script"] (spLaw K) := by
  have e := hfa.symm.trans (PySem.W.mg_of X G a_law)
  cases e
  let a : Ad := { f_fits := f_fits, d_fits := PySem.W.fnOf "fits" "fits" (defArgs s_fits) (defBody s_fits) (defScope s_fits) .none kV_fits dc_fits pm_fits an_fits cd_fits ct_fits, f_arithmetic := f_arithmetic, d_arithmetic := PySem.W.fnOf "arithmetic" "arithmetic" (defArgs s_arithmetic) (defBody s_arithmetic) (defScope s_arithmetic) .none kV_arithmetic dc_arithmetic pm_arithmetic an_arithmetic cd_arithmetic ct_arithmetic, f_compare := f_compare, d_compare := PySem.W.fnOf "compare" "compare" (defArgs s_compare) (defBody s_compare) (defScope s_compare) .none kV_compare dc_compare pm_compare an_compare cd_compare ct_compare, f_word := f_word, d_word := PySem.W.fnOf "_word" "_word" (defArgs s_word) (defBody s_word) (defScope s_word) .none kV_word dc_word pm_word an_word cd_word ct_word, f_result := f_result, d_result := PySem.W.fnOf "_result" "_result" (defArgs s_result) (defBody s_result) (defScope s_result) .none kV_result dc_result pm_result an_result cd_result ct_result, f_quotient := f_quotient, d_quotient := PySem.W.fnOf "_quotient" "_quotient" (defArgs s_quotient) (defBody s_quotient) (defScope s_quotient) .none kV_quotient dc_quotient pm_quotient an_quotient cd_quotient ct_quotient, f_compute := f_compute, d_compute := PySem.W.fnOf "compute" "compute" (defArgs s_compute) (defBody s_compute) (defScope s_compute) .none kV_compute dc_compute pm_compute an_compute cd_compute ct_compute, f_high_word := f_high_word, d_high_word := PySem.W.fnOf "high_word" "high_word" (defArgs s_high_word) (defBody s_high_word) (defScope s_high_word) .none kV_high_word dc_high_word pm_high_word an_high_word cd_high_word ct_high_word, f_low_word := f_low_word, d_low_word := PySem.W.fnOf "low_word" "low_word" (defArgs s_low_word) (defBody s_low_word) (defScope s_low_word) .none kV_low_word dc_low_word pm_low_word an_low_word cd_low_word ct_low_word, f_law_pick := f_law_pick, d_law_pick := PySem.W.fnOf "_law_pick" "_law_pick" (defArgs s_law_pick) (defBody s_law_pick) (defScope s_law_pick) .none kV_law_pick dc_law_pick pm_law_pick an_law_pick cd_law_pick ct_law_pick, f_law_is_integer := f_law_is_integer, d_law_is_integer := PySem.W.fnOf "_law_is_integer" "_law_is_integer" (defArgs s_law_is_integer) (defBody s_law_is_integer) (defScope s_law_is_integer) .none kV_law_is_integer dc_law_is_integer pm_law_is_integer an_law_is_integer cd_law_is_integer ct_law_is_integer, f_law_word := f_law_word, d_law_word := PySem.W.fnOf "_law_word" "_law_word" (defArgs s_law_word) (defBody s_law_word) (defScope s_law_word) .none kV_law_word dc_law_word pm_law_word an_law_word cd_law_word ct_law_word, f_law_quotient := f_law_quotient, d_law_quotient := PySem.W.fnOf "_law_quotient" "_law_quotient" (defArgs s_law_quotient) (defBody s_law_quotient) (defScope s_law_quotient) .none kV_law_quotient dc_law_quotient pm_law_quotient an_law_quotient cd_law_quotient ct_law_quotient, f_law_due := f_law_due, d_law_due := PySem.W.fnOf "_law_due" "_law_due" (defArgs s_law_due) (defBody s_law_due) (defScope s_law_due) .none kV_law_due dc_law_due pm_law_due an_law_due cd_law_due ct_law_due, f_law_compute := f_law_compute, d_law_compute := PySem.W.fnOf "_law_compute" "_law_compute" (defArgs s_law_compute) (defBody s_law_compute) (defScope s_law_compute) .none kV_law_compute dc_law_compute pm_law_compute an_law_compute cd_law_compute ct_law_compute, f_law_halves := f_law_halves, d_law_halves := PySem.W.fnOf "_law_halves" "_law_halves" (defArgs s_law_halves) (defBody s_law_halves) (defScope s_law_halves) .none kV_law_halves dc_law_halves pm_law_halves an_law_halves cd_law_halves ct_law_halves, f_law := fa, d_law := PySem.W.fnOf "law" "law" (defArgs s_law) (defBody s_law) (defScope s_law) .none kV_law dc_law pm_law an_law cd_law ct_law, t_MAX := t_MAX, t_MIN := t_MIN, t_PART := t_PART, c_SIGNS := c_SIGNS, C_AdaError := C_AdaError, C_Overflow := C_Overflow, C_DivisionByZero := C_DivisionByZero }
  have T : Txt w K mg a := {
    g_fits := PySem.W.mg_of X G a_fits,
    F_fits := fun_mk (st := s_fits) l_fits c_fits k_fits,
    k_fits := k_fits,
    bd_fits := (fun_mk (st := s_fits) l_fits c_fits k_fits).binds (ps := ["number"]) fun _ _ _ _ _ _ us hl => match us, hl with | [_], _ => rfl,
    g_arithmetic := PySem.W.mg_of X G a_arithmetic,
    F_arithmetic := fun_mk (st := s_arithmetic) l_arithmetic c_arithmetic k_arithmetic,
    k_arithmetic := k_arithmetic,
    bd_arithmetic := (fun_mk (st := s_arithmetic) l_arithmetic c_arithmetic k_arithmetic).binds (ps := ["op", "left", "right"]) fun _ _ _ _ _ _ us hl => match us, hl with | [_, _, _], _ => rfl,
    g_compare := PySem.W.mg_of X G a_compare,
    F_compare := fun_mk (st := s_compare) l_compare c_compare k_compare,
    k_compare := k_compare,
    bd_compare := (fun_mk (st := s_compare) l_compare c_compare k_compare).binds (ps := ["op", "left", "right"]) fun _ _ _ _ _ _ us hl => match us, hl with | [_, _, _], _ => rfl,
    g__word := PySem.W.mg_of X G a_word,
    F__word := fun_mk (st := s_word) l_word c_word k_word,
    k__word := k_word,
    bd__word := (fun_mk (st := s_word) l_word c_word k_word).binds (ps := ["number"]) fun _ _ _ _ _ _ us hl => match us, hl with | [_], _ => rfl,
    g__result := PySem.W.mg_of X G a_result,
    F__result := fun_mk (st := s_result) l_result c_result k_result,
    k__result := k_result,
    bd__result := (fun_mk (st := s_result) l_result c_result k_result).binds (ps := ["op", "left", "right"]) fun _ _ _ _ _ _ us hl => match us, hl with | [_, _, _], _ => rfl,
    g__quotient := PySem.W.mg_of X G a_quotient,
    F__quotient := fun_mk (st := s_quotient) l_quotient c_quotient k_quotient,
    k__quotient := k_quotient,
    bd__quotient := (fun_mk (st := s_quotient) l_quotient c_quotient k_quotient).binds (ps := ["left", "right"]) fun _ _ _ _ _ _ us hl => match us, hl with | [_, _], _ => rfl,
    g_compute := PySem.W.mg_of X G a_compute,
    F_compute := fun_mk (st := s_compute) l_compute c_compute k_compute,
    k_compute := k_compute,
    bd_compute := (fun_mk (st := s_compute) l_compute c_compute k_compute).binds (ps := ["name", "left", "right"]) fun _ _ _ _ _ _ us hl => match us, hl with | [_, _, _], _ => rfl,
    g_high_word := PySem.W.mg_of X G a_high_word,
    F_high_word := fun_mk (st := s_high_word) l_high_word c_high_word k_high_word,
    k_high_word := k_high_word,
    bd_high_word := (fun_mk (st := s_high_word) l_high_word c_high_word k_high_word).binds (ps := ["n"]) fun _ _ _ _ _ _ us hl => match us, hl with | [_], _ => rfl,
    g_low_word := PySem.W.mg_of X G a_low_word,
    F_low_word := fun_mk (st := s_low_word) l_low_word c_low_word k_low_word,
    k_low_word := k_low_word,
    bd_low_word := (fun_mk (st := s_low_word) l_low_word c_low_word k_low_word).binds (ps := ["word", "m"]) fun _ _ _ _ _ _ us hl => match us, hl with | [_, _], _ => rfl,
    g__law_pick := PySem.W.mg_of X G a_law_pick,
    F__law_pick := fun_mk (st := s_law_pick) l_law_pick c_law_pick k_law_pick,
    k__law_pick := k_law_pick,
    bd__law_pick := (fun_mk (st := s_law_pick) l_law_pick c_law_pick k_law_pick).binds (ps := ["state", "limit"]) fun _ _ _ _ _ _ us hl => match us, hl with | [_, _], _ => rfl,
    g__law_is_integer := PySem.W.mg_of X G a_law_is_integer,
    F__law_is_integer := fun_mk (st := s_law_is_integer) l_law_is_integer c_law_is_integer k_law_is_integer,
    k__law_is_integer := k_law_is_integer,
    bd__law_is_integer := (fun_mk (st := s_law_is_integer) l_law_is_integer c_law_is_integer k_law_is_integer).binds (ps := ["actual"]) fun _ _ _ _ _ _ us hl => match us, hl with | [_], _ => rfl,
    g__law_word := PySem.W.mg_of X G a_law_word,
    F__law_word := fun_mk (st := s_law_word) l_law_word c_law_word k_law_word,
    k__law_word := k_law_word,
    bd__law_word := (fun_mk (st := s_law_word) l_law_word c_law_word k_law_word).binds (ps := ["state"]) fun _ _ _ _ _ _ us hl => match us, hl with | [_], _ => rfl,
    g__law_quotient := PySem.W.mg_of X G a_law_quotient,
    F__law_quotient := fun_mk (st := s_law_quotient) l_law_quotient c_law_quotient k_law_quotient,
    k__law_quotient := k_law_quotient,
    bd__law_quotient := (fun_mk (st := s_law_quotient) l_law_quotient c_law_quotient k_law_quotient).binds (ps := ["left", "right"]) fun _ _ _ _ _ _ us hl => match us, hl with | [_, _], _ => rfl,
    g__law_due := PySem.W.mg_of X G a_law_due,
    F__law_due := fun_mk (st := s_law_due) l_law_due c_law_due k_law_due,
    k__law_due := k_law_due,
    bd__law_due := (fun_mk (st := s_law_due) l_law_due c_law_due k_law_due).binds (ps := ["name", "left", "right"]) fun _ _ _ _ _ _ us hl => match us, hl with | [_, _, _], _ => rfl,
    g__law_compute := PySem.W.mg_of X G a_law_compute,
    F__law_compute := fun_mk (st := s_law_compute) l_law_compute c_law_compute k_law_compute,
    k__law_compute := k_law_compute,
    bd__law_compute := (fun_mk (st := s_law_compute) l_law_compute c_law_compute k_law_compute).binds (ps := ["name", "left", "right"]) fun _ _ _ _ _ _ us hl => match us, hl with | [_, _, _], _ => rfl,
    g__law_halves := PySem.W.mg_of X G a_law_halves,
    F__law_halves := fun_mk (st := s_law_halves) l_law_halves c_law_halves k_law_halves,
    k__law_halves := k_law_halves,
    bd__law_halves := (fun_mk (st := s_law_halves) l_law_halves c_law_halves k_law_halves).binds (ps := ["state"]) fun _ _ _ _ _ _ us hl => match us, hl with | [_], _ => rfl,
    g_law := PySem.W.mg_of X G a_law,
    F_law := fun_mk (st := s_law) l_law c_law k_law,
    k_law := k_law,
    bd_law := (fun_mk (st := s_law) l_law c_law k_law).binds (ps := ["script"]) fun _ _ _ _ _ _ us hl => match us, hl with | [_], _ => rfl,
    g_MAX := PySem.W.mg_of X G a_MAX,
    g_MIN := PySem.W.mg_of X G a_MIN,
    g_PART := PySem.W.mg_of X G a_PART,
    g_SIGNS := PySem.W.mg_of X G a_SIGNS,
    kd_SIGNS_add := ⟨_, _, _, l_SIGNS, lit_SIGNS, v_SIGNS_add, _, rfl⟩,
    kd_SIGNS_sub := ⟨_, _, _, l_SIGNS, lit_SIGNS, v_SIGNS_sub, _, rfl⟩,
    kd_SIGNS_mul := ⟨_, _, _, l_SIGNS, lit_SIGNS, v_SIGNS_mul, _, rfl⟩,
    kd_SIGNS_div := ⟨_, _, _, l_SIGNS, lit_SIGNS, v_SIGNS_div, _, rfl⟩,
    kd_SIGNS_mod := ⟨_, _, _, l_SIGNS, lit_SIGNS, v_SIGNS_mod, _, rfl⟩,
    kd_SIGNS_rem := ⟨_, _, _, l_SIGNS, lit_SIGNS, v_SIGNS_rem, _, rfl⟩,
    kd_SIGNS_less := ⟨_, _, _, l_SIGNS, lit_SIGNS, v_SIGNS_less, _, rfl⟩,
    kd_SIGNS_equal := ⟨_, _, _, l_SIGNS, lit_SIGNS, v_SIGNS_equal, _, rfl⟩,
    b_abs := PySem.W.mg_none_of X G z_abs,
    b_bool := PySem.W.mg_none_of X G z_bool,
    b_int := PySem.W.mg_none_of X G z_int,
    b_isinstance := PySem.W.mg_none_of X G z_isinstance,
    b_len := PySem.W.mg_none_of X G z_len,
    b_range := PySem.W.mg_none_of X G z_range,
    g_AdaError := PySem.W.mg_of X G aC_AdaError,
    x_AdaError := x_AdaError,
    kC_AdaError := kC_AdaError,
    s1_AdaError := s1_AdaError,
    ty_AdaError := ty_AdaError,
    ic_AdaError := ic_AdaError,
    g_Overflow := PySem.W.mg_of X G aC_Overflow,
    x_Overflow := x_Overflow,
    kC_Overflow := kC_Overflow,
    s1_Overflow := s1_Overflow,
    ty_Overflow := ty_Overflow,
    ic_Overflow := ic_Overflow,
    ec_Overflow := ⟨h1_Overflow, h2_Overflow, s1_Overflow, h3_Overflow, h4_Overflow, h5_Overflow, h6_Overflow, h7_Overflow⟩,
    g_DivisionByZero := PySem.W.mg_of X G aC_DivisionByZero,
    x_DivisionByZero := x_DivisionByZero,
    kC_DivisionByZero := kC_DivisionByZero,
    s1_DivisionByZero := s1_DivisionByZero,
    ty_DivisionByZero := ty_DivisionByZero,
    ic_DivisionByZero := ic_DivisionByZero,
    ec_DivisionByZero := ⟨h1_DivisionByZero, h2_DivisionByZero, s1_DivisionByZero, h3_DivisionByZero, h4_DivisionByZero, h5_DivisionByZero, h6_DivisionByZero, h7_DivisionByZero⟩,
    e_Overflow_Overflow := exm_of s1_Overflow ic_Overflow ty_Overflow e_Overflow_Overflow,
    e_DivisionByZero_Overflow := exm_of s1_Overflow ic_Overflow ty_Overflow e_DivisionByZero_Overflow,
    e_DivisionByZero_DivisionByZero := exm_of s1_DivisionByZero ic_DivisionByZero ty_DivisionByZero e_DivisionByZero_DivisionByZero,
    i_Overflow_DivisionByZero := kit_sub i_Overflow_DivisionByZero (fun _ => zz_DivisionByZero) ic_DivisionByZero ty_DivisionByZero,
    i_Overflow_AdaError := kit_sub i_Overflow_AdaError (fun z => nomatch z) ic_AdaError ty_AdaError,
    i_DivisionByZero_Overflow := kit_sub i_DivisionByZero_Overflow (fun _ => zz_Overflow) ic_Overflow ty_Overflow,
    i_DivisionByZero_AdaError := kit_sub i_DivisionByZero_AdaError (fun z => nomatch z) ic_AdaError ty_AdaError }
  exact ⟨a.d_law, fun s v => .of_eq rfl, fun base _ _ => ok_law T⟩
theorem walk {l : PySem.W.OpenLaw} {q : Program} {loose : List Str} {XP : (Str → Option Value) → Heap → Prop} {YP : World → Heap → Prop} {d : DefRec} {K : Params → PySem.W.Frag} (hn : l.most = some 63) (hdf : d.params.defaults = [])
    (hY : ∀ (w : World) (h : Heap), YP w h → (K w.params).In h)
    (F : ∀ (w : World) (mg : Str → Option Value) (fa : Addr) (h : Heap), (K w.params).In h → h.Ns mainGlobals mg → mg d.name = some (.ref fa) →
      ∃ fd : FuncData, (∀ (s : Shared) (u : Value), BindsTo s fd ⟨[u], []⟩ [("script", u)]) ∧ ∀ base : Heap, (K w.params).In base → base.Ns mainGlobals mg → FnOk l.prog w (K w.params) mg base CX0 8 fa fd ["script"] (spLaw (K w.params))) :
    PySem.W.WalkO q loose XP YP l.row.toRowW d [] (fun f vs => PySem.call f vs) :=
  L2.walk_of (n := 63) (k := 8) (x := "script") (CX := fun _ => CX0) (sp := fun w => spLaw (K w.params)) hn (by decide) hdf ⟨rfl, by decide, by decide⟩ hY F (fun _ _ a ns hl _ hS => ⟨a, ns, rfl, hS, hl, fun _ => rfl⟩) fun _ _ _ _ _ z => z

end My
open PySem PySem.W PyProof.Rows
set_option maxRecDepth 100000 in
set_option maxHeartbeats 0 in
theorem PySem.Challenge.cw_windowada_k65_arithmetic_of_instructions_holds : PySem.Challenge.rw_windowada_k65_arithmetic_of_instructions.Holds := by
  w_on; o_law; k_head; (case hw => w_witness2)
  k_fill
  refine My.walk (l := PySem.Challenge.rw_windowada_k65_arithmetic_of_instructions) rfl rfl (fun w h Y => PySem.W.kIn_of Y) ?F
  case F =>
    intro w mg fa h KX G hmg
    refine' My.all_mk KX G hmg ?aC_AdaError ?x_AdaError ?kC_AdaError ?s1_AdaError ?ty_AdaError ?ic_AdaError ?aC_Overflow ?x_Overflow ?kC_Overflow ?s1_Overflow ?ty_Overflow ?ic_Overflow ?h1_Overflow ?h2_Overflow ?h3_Overflow ?h4_Overflow ?h5_Overflow ?h6_Overflow ?h7_Overflow ?aC_DivisionByZero ?x_DivisionByZero ?kC_DivisionByZero ?s1_DivisionByZero ?ty_DivisionByZero ?ic_DivisionByZero ?h1_DivisionByZero ?h2_DivisionByZero ?h3_DivisionByZero ?h4_DivisionByZero ?h5_DivisionByZero ?h6_DivisionByZero ?h7_DivisionByZero ?e_Overflow_Overflow ?e_DivisionByZero_Overflow ?e_DivisionByZero_DivisionByZero ?zz_DivisionByZero ?zz_Overflow ?i_Overflow_DivisionByZero ?i_Overflow_AdaError ?i_DivisionByZero_Overflow ?i_DivisionByZero_AdaError ?a_fits ?l_fits ?c_fits ?k_fits ?a_arithmetic ?l_arithmetic ?c_arithmetic ?k_arithmetic ?a_compare ?l_compare ?c_compare ?k_compare ?a_word ?l_word ?c_word ?k_word ?a_result ?l_result ?c_result ?k_result ?a_quotient ?l_quotient ?c_quotient ?k_quotient ?a_compute ?l_compute ?c_compute ?k_compute ?a_high_word ?l_high_word ?c_high_word ?k_high_word ?a_low_word ?l_low_word ?c_low_word ?k_low_word ?a_law_pick ?l_law_pick ?c_law_pick ?k_law_pick ?a_law_is_integer ?l_law_is_integer ?c_law_is_integer ?k_law_is_integer ?a_law_word ?l_law_word ?c_law_word ?k_law_word ?a_law_quotient ?l_law_quotient ?c_law_quotient ?k_law_quotient ?a_law_due ?l_law_due ?c_law_due ?k_law_due ?a_law_compute ?l_law_compute ?c_law_compute ?k_law_compute ?a_law_halves ?l_law_halves ?c_law_halves ?k_law_halves ?a_law ?l_law ?c_law ?k_law ?a_MAX ?a_MIN ?a_PART ?a_SIGNS ?l_SIGNS ?lit_SIGNS ?v_SIGNS_add ?v_SIGNS_sub ?v_SIGNS_mul ?v_SIGNS_div ?v_SIGNS_mod ?v_SIGNS_rem ?v_SIGNS_less ?v_SIGNS_equal ?z_abs ?z_bool ?z_int ?z_isinstance ?z_len ?z_range
    (case aC_AdaError => k_is)
    (case x_AdaError => k_exc)
    (case kC_AdaError => k_is)
    (case s1_AdaError => k_is)
    (case ty_AdaError => k_is)
    (case ic_AdaError => k_is)
    (case aC_Overflow => k_is)
    (case x_Overflow => k_exc)
    (case kC_Overflow => k_is)
    (case s1_Overflow => k_is)
    (case ty_Overflow => k_is)
    (case ic_Overflow => k_is)
    (case h1_Overflow => k_is)
    (case h2_Overflow => k_is)
    (case h3_Overflow => k_is)
    (case h4_Overflow => k_is)
    (case h5_Overflow => k_is)
    (case h6_Overflow => k_is)
    (case h7_Overflow => k_is)
    (case aC_DivisionByZero => k_is)
    (case x_DivisionByZero => k_exc)
    (case kC_DivisionByZero => k_is)
    (case s1_DivisionByZero => k_is)
    (case ty_DivisionByZero => k_is)
    (case ic_DivisionByZero => k_is)
    (case h1_DivisionByZero => k_is)
    (case h2_DivisionByZero => k_is)
    (case h3_DivisionByZero => k_is)
    (case h4_DivisionByZero => k_is)
    (case h5_DivisionByZero => k_is)
    (case h6_DivisionByZero => k_is)
    (case h7_DivisionByZero => k_is)
    (case e_Overflow_Overflow => first | rfl | k_is)
    (case e_DivisionByZero_Overflow => first | rfl | k_is)
    (case e_DivisionByZero_DivisionByZero => first | rfl | k_is)
    (case zz_DivisionByZero => first | rfl | k_is)
    (case zz_Overflow => first | rfl | k_is)
    (case i_Overflow_DivisionByZero => first | rfl | k_is)
    (case i_Overflow_AdaError => first | rfl | k_is)
    (case i_DivisionByZero_Overflow => first | rfl | k_is)
    (case i_DivisionByZero_AdaError => first | rfl | k_is)
    (case a_fits => k_is)
    (case l_fits => k_is)
    (case c_fits => k_is)
    (case k_fits => k_is)
    (case a_arithmetic => k_is)
    (case l_arithmetic => k_is)
    (case c_arithmetic => k_is)
    (case k_arithmetic => k_is)
    (case a_compare => k_is)
    (case l_compare => k_is)
    (case c_compare => k_is)
    (case k_compare => k_is)
    (case a_word => k_is)
    (case l_word => k_is)
    (case c_word => k_is)
    (case k_word => k_is)
    (case a_result => k_is)
    (case l_result => k_is)
    (case c_result => k_is)
    (case k_result => k_is)
    (case a_quotient => k_is)
    (case l_quotient => k_is)
    (case c_quotient => k_is)
    (case k_quotient => k_is)
    (case a_compute => k_is)
    (case l_compute => k_is)
    (case c_compute => k_is)
    (case k_compute => k_is)
    (case a_high_word => k_is)
    (case l_high_word => k_is)
    (case c_high_word => k_is)
    (case k_high_word => k_is)
    (case a_low_word => k_is)
    (case l_low_word => k_is)
    (case c_low_word => k_is)
    (case k_low_word => k_is)
    (case a_law_pick => k_is)
    (case l_law_pick => k_is)
    (case c_law_pick => k_is)
    (case k_law_pick => k_is)
    (case a_law_is_integer => k_is)
    (case l_law_is_integer => k_is)
    (case c_law_is_integer => k_is)
    (case k_law_is_integer => k_is)
    (case a_law_word => k_is)
    (case l_law_word => k_is)
    (case c_law_word => k_is)
    (case k_law_word => k_is)
    (case a_law_quotient => k_is)
    (case l_law_quotient => k_is)
    (case c_law_quotient => k_is)
    (case k_law_quotient => k_is)
    (case a_law_due => k_is)
    (case l_law_due => k_is)
    (case c_law_due => k_is)
    (case k_law_due => k_is)
    (case a_law_compute => k_is)
    (case l_law_compute => k_is)
    (case c_law_compute => k_is)
    (case k_law_compute => k_is)
    (case a_law_halves => k_is)
    (case l_law_halves => k_is)
    (case c_law_halves => k_is)
    (case k_law_halves => k_is)
    (case a_law => k_is)
    (case l_law => k_is)
    (case c_law => k_is)
    (case k_law => k_is)
    (case a_MAX => k_is)
    (case a_MIN => k_is)
    (case a_PART => k_is)
    (case a_SIGNS => k_is)
    (case l_SIGNS => k_is)
    (case lit_SIGNS => repeat (first | exact trivial | refine ⟨⟨_, _, rfl, rfl⟩, ?_⟩))
    (case v_SIGNS_add => k_is)
    (case v_SIGNS_sub => k_is)
    (case v_SIGNS_mul => k_is)
    (case v_SIGNS_div => k_is)
    (case v_SIGNS_mod => k_is)
    (case v_SIGNS_rem => k_is)
    (case v_SIGNS_less => k_is)
    (case v_SIGNS_equal => k_is)
    (case z_abs => k_is)
    (case z_bool => k_is)
    (case z_int => k_is)
    (case z_isinstance => k_is)
    (case z_len => k_is)
    (case z_range => k_is)

