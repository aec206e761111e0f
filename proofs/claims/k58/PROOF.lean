import PyProof.Rows.All
import Wide.All
import OpenK.AllK
import Wide.FinOn
import HandS.ForMost
import HandS.ForExc
import HandS.Wide
import HandS.IsInst
import HandS.ExcIs
import HandS.WordsExc
import HandS.Property
import HandS.More
import HandS.Codes
import HandS.TupMul
import HandS.Strs
import HandS.SetFor
import HandS.TryOnly
import HandS.Star
import KE.GoesZip
import KE.GoesEnum
import KE.KItemsList
import HandS.Conv
import HandS.TryMany
import HandS.Style
import HandS.RaiseMore
import HandS.FStr
import HandS.Zip
import PySem.Challenge.RW_windowada_k58_constants
set_option Elab.async false
set_option maxRecDepth 100000
set_option maxHeartbeats 4000000
set_option linter.all false
namespace My
open PySem L2
/-! ### helpers -/
def IsTupOf (o : Obj) (xs : List V) : Prop := o.cls = .type "tuple" ∧ ∃ (its : Array Value) (n : Nat), o.data = .seq its n ∧ its.size ≤ sizeLine ∧ Vals xs its.toList
theorem sqT_of {K : PySem.W.Frag} {H : Hp} {a : Addr} {o : Obj} {xs : List V} (h : K.lookup a = some o) (q : IsTupOf o xs) : SqT K H a xs := by
  obtain ⟨c, its, n, d, z, r⟩ := q
  exact .inr ⟨o, its, n, h, c, d, z, r⟩
theorem upd_self {H : Hp} {a : Addr} {o : HO} (h : H a = some o) : upd H a o = H := by
  funext b
  unfold upd
  split
  · rename_i e; rw [e, h]
  · rfl
theorem exm_of {K : PySem.W.Frag} {S C : Addr} (h1 : PySem.W.subIn K (.ref C) (.type "BaseException") = some true) (h2 : PySem.W.isClsIn K C = true) (h3 : PySem.W.typeIn K (.ref C) = some (.type "type")) {b : Bool} (h4 : PySem.W.subIn K (.ref S) (.ref C) = some b) :
    PySem.W.exmOne K (.ref S) (.ref C) = some b := by
  have e1 : (PySem.W.subIn K (.ref C) (.type "BaseException") == some true) = true := by rw [h1] <;> rfl
  have e2 : ((PySem.W.clsIn K C).isSome && PySem.W.typeIn K (.ref C) == some (.type "type")) = true := by
    have h2' : (PySem.W.clsIn K C).isSome = true := h2
    rw [h2', h3] <;> rfl
  show (if (PySem.W.subIn K (.ref C) (.type "BaseException") == some true) = true then (if ((PySem.W.clsIn K C).isSome && PySem.W.typeIn K (.ref C) == some (.type "type")) = true then PySem.W.subIn K (.ref S) (.ref C) else none) else none) = some b
  rw [if_pos e1, if_pos e2]
  exact h4
theorem sN {H H1 : Hp} {p : Addr} {o : HO} (s : Same H H1) (n : H1 p = none) : Same H (upd H1 p o) := fun b u e => by
  rw [upd_ne (ne_of_none (s b u e) n)]
  exact s b u e
theorem seqT {K : PySem.W.Frag} {H H' : Hp} {a : Addr} {xs : List V} (e : Same H H') (h : SqT K H a xs) : SqT K H' a xs := by
  rcases h with (h | ⟨o, h⟩) | h
  · exact .inl (.inl (e _ _ h))
  · exact .inl (.inr ⟨o, e _ _ h⟩)
  · exact .inr h
theorem ite3 {b : Bool} {A B : Prop} (h1 : b = true → A) (h2 : b = false → B) : if b = true then A else B := by
  cases b with
  | true => exact iteT (h1 rfl)
  | false => exact iteF (h2 rfl)
section
variable {X : Cx}
def rInS (K : PySem.W.Frag) : R2 := fun x y H Q => ∃ p xs, y = .ref p ∧ (SqL K H p xs ∨ SqT K H p xs) ∧ flatV x = true ∧ xs.all flatV = true ∧ Q (.bl (inV x xs)) H
def rNotInS (K : PySem.W.Frag) : R2 := fun x y H Q => ∃ p xs, y = .ref p ∧ (SqL K H p xs ∨ SqT K H p xs) ∧ flatV x = true ∧ xs.all flatV = true ∧ Q (.bl (!inV x xs)) H
theorem op_inS : OpR X (compareOp .In) (rInS X.K) := fun pins s σ H x y v u Q I rx ry h => op_in_seq pins s σ H x y v u Q I rx ry h
theorem op_notInS : OpR X (compareOp .NotIn) (rNotInS X.K) := fun pins s σ H x y v u Q I rx ry h => op_notIn_seq pins s σ H x y v u Q I rx ry h
end
theorem at0 {v : V} {r : List V} : atI (v :: r) 0 = some v := atI_nat (j := 0) rfl
theorem sUpd {H H1 : Hp} {p : Addr} {o : HO} (s : Same H H1) (n : H p = none) : Same H (upd H1 p o) := fun b u e => by
  rw [upd_ne (ne_of_none e n)]
  exact s b u e
/-! ### match over a value -/
structure PMC (X : Cx) (cases : List MatchCase) (t : V → TS) : Prop where
  run : ∀ (first : Bool) (pins : List (Addr × Obj)) (s : Shared) (σ : St) (H : Hp) (D : Ends) (x : V) (v : Value), Inv X pins σ H s → RelV x v → t x D σ H → wpAny (model X.prog X.w) X.A (matchCases cases X.env v first) (SP X pins D) X.xe s
def mNil : V → TS := fun _ D σ H => D.nx σ H
def mStr (z : Str) (t : TS) (u : V → TS) : V → TS := fun x D σ H => scal x (.str z) = true ∧ if decide (x = .str z) = true then t D σ H else u x D σ H
def tMatch (te : TE) (t : V → TS) : TS := fun D σ H => te σ H fun x H1 => t x D σ H1
section
variable {X : Cx}
theorem pmc_nil : PMC X [] mNil := ⟨fun _ _ _ σ H D x v I _ h => wpAny_matchCases_nil ⟨σ, H, I, h⟩⟩
theorem pmc_str {z : Str} {j : Nat} {p p2 : Pos} {body : List Stmt} {rest : List MatchCase} {t : TS} {u : V → TS} (hb : PSs X body t) (hr : PMC X rest u) : PMC X (⟨.MatchValue (.Constant (.str z) j p) p2, none, body⟩ :: rest) (mStr z t u) := by
  refine ⟨fun first pins s σ H D x v I r h => ?_⟩
  obtain ⟨hs, h⟩ := h
  refine wpAny_matchCases_cons (wpAny_matchPattern_Value ?_)
  have hz : PE X (.Constant (.str z) j p) (tC (.str z)) := pe_str
  refine thn (hz.run pins s σ H (fun y H1 => y = .str z ∧ H1 = H) I ⟨rfl, rfl⟩) fun w s1 ⟨y, H1, I1, r1, e1, e2⟩ => ?_
  subst e1; subst e2
  refine thn (op_eq pins s1 σ H1 x (.str z) v w (fun y H2 => y = .bl (decide (x = .str z)) ∧ H2 = H1) I1 r r1 ⟨hs, rfl, rfl⟩) fun c s2 ⟨y, H2, I2, r2, e1, e2⟩ => ?_
  subst e1; subst e2
  cases r2
  refine wpAny_truthy_bool ?_
  cases e : decide (x = V.str z) with
  | true =>
    rw [e] at h
    refine wpAny_assignInOrder_none ?_
    exact hb.run pins s2 σ H2 D I2 (by simpa using h)
  | false =>
    rw [e] at h
    exact hr.run false pins s2 σ H2 D x v I2 r (by simpa using h)
theorem ps_match {e : Expr} {cs : List MatchCase} {pos : Pos} {te : TE} {t : V → TS} (he : PE X e te) (hc : PMC X cs t) : PS X (.Match e cs pos) (tMatch te t) := by
  refine ⟨fun pins s σ H D I h => ?_⟩
  exact wpAny_Match (thn (he.run pins s σ H _ I h) fun v s1 ⟨x, H1, I1, r1, q1⟩ => hc.run true pins s1 σ H1 D x v I1 r1 q1)
/-- isinstance(e, c) in a suite, whatever the caught class is -/
def rIsEx (K : PySem.W.Frag) (a : Addr) (cls : Value) (d : Option Addr) : List V → Hp → VK → Prop := fun xs H Q => ∃ D, cls = .ref D ∧ d = none ∧ ExcC K D ∧ rIsE K D a xs H Q
theorem call_isEx {a : Addr} {cls : Value} {d : Option Addr} {oe : Obj} {pn : List (Addr × Obj)} (hz : Zc cls d oe) (hf : ∃ vs, oe.data = .fields vs) : CallR (X.suite a ((a, oe) :: pn)) (.builtin "isinstance") (rIsEx X.K a cls d) := by
  intro pins s σ H xs us Q I r h
  obtain ⟨D, rfl, rfl, C, h⟩ := h
  exact call_isE C hz hf pins s σ H xs us Q I r h
end
theorem kit_self {K : PySem.W.Frag} {D : Addr} : PySem.W.kitOne K (.ref D) (.ref D) = some true := by
  unfold PySem.W.kitOne
  rw [if_pos (by simp)]
theorem kit_no {K : PySem.W.Frag} {D C : Addr} (h : PySem.W.subIn K (.ref D) (.ref C) = some false) (hs : PySem.W.subIn K (.ref C) (.ref C) = some true) (h2 : PySem.W.isClsIn K C = true) (h3 : PySem.W.typeIn K (.ref C) = some (.type "type")) :
    PySem.W.kitOne K (.ref D) (.ref C) = some false := by
  have ne : ¬ ((Value.ref D == Value.ref C) = true) := fun e => by
    have e' : D = C := by simpa using e
    subst e'
    rw [h] at hs
    exact nomatch hs
  have e2 : ((PySem.W.clsIn K C).isSome && PySem.W.typeIn K (.ref C) == some (.type "type")) = true := by
    have h2' : (PySem.W.clsIn K C).isSome = true := h2
    rw [h2', h3] <;> rfl
  unfold PySem.W.kitOne
  rw [if_neg ne]
  show (if ((PySem.W.clsIn K C).isSome && PySem.W.typeIn K (.ref C) == some (.type "type")) = true then PySem.W.subIn K (.ref D) (.ref C) else none) = some false
  rw [if_pos e2]
  exact h
theorem kit_sub {K : PySem.W.Frag} {D C : Addr} {b : Bool} (h : PySem.W.subIn K (.ref D) (.ref C) = some b) (hs : b = false → PySem.W.subIn K (.ref C) (.ref C) = some true) (h2 : PySem.W.isClsIn K C = true) (h3 : PySem.W.typeIn K (.ref C) = some (.type "type")) :
    PySem.W.kitOne K (.ref D) (.ref C) = some b := by
  cases b with
  | false => exact kit_no h (hs rfl) h2 h3
  | true =>
    have e2 : ((PySem.W.clsIn K C).isSome && PySem.W.typeIn K (.ref C) == some (.type "type")) = true := by
      have h2' : (PySem.W.clsIn K C).isSome = true := h2
      rw [h2', h3] <;> rfl
    unfold PySem.W.kitOne
    split
    · rfl
    · show (if ((PySem.W.clsIn K C).isSome && PySem.W.typeIn K (.ref C) == some (.type "type")) = true then PySem.W.subIn K (.ref D) (.ref C) else none) = some true
      rw [if_pos e2]
      exact h
theorem kit_bt {K : PySem.W.Frag} {D : Addr} {n : String} {b : Bool} (hm : PySem.W.kitMeta n = true) (h : PySem.W.subIn K (.ref D) (.type n) = some b) : PySem.W.kitOne K (.ref D) (.type n) = some b := by
  unfold PySem.W.kitOne
  rw [if_neg (by simp)]
  show (if PySem.W.kitMeta n = true then PySem.W.subIn K (.ref D) (.type n) else none) = some b
  rw [if_pos hm]
  exact h
/-! ### a method that may raise, called in a try -/
section
variable {X : Cx} {CX : CXT} {k : Nat} {f C : Addr} {fd : FuncData} {ps : List Str} {sp : Sp} {E : St → XK} {m : Str} {pos apos : Pos} {e o : Expr} {es : List Expr} {ta : TE} {t : TA}
def tMethE (C : Addr) (m : Str) (sp : Sp) (E : St → XK) (ta : TE) (t : TA) : TE := fun σ H Q => ta σ H fun x H1 => ∃ a dx fs, x = .ref a ∧ H1 a = some (.ins C dx fs) ∧ fs.lookup m = none ∧ t σ H1 fun vs H2 => sp (x :: vs) H2 Q (E σ)
theorem pe_methE0 {pl : Sem Bool} (he : PE X o ta) (c : Cls X.K C) (hm : Meth X.K C m f) (F : FnOk X.prog X.w X.K X.mg X.base CX k f fd ps sp) (hr : Room k X.A) (hb : Binds X.K fd ps []) (hx : ∀ σ, PassesAt CX X σ (E σ))
    (ht : eval (.Call (.Attribute o m apos) [] [] pos) X.env = (do
      let ov ← eval o X.env
      standAt apos.atName
      let (f, first) ← holding [ov] (getMethod ov m pl)
      callWith pos f first (backTo pos (starEach [] X.env)) (backToKw pos (keywordEach [] X.env))) := by rfl) :
    PE X (.Call (.Attribute o m apos) [] [] pos) (tMethE C m sp E ta tNil) := by
  refine ⟨fun pins s σ H Q I h => ?_⟩
  refine PySem.W.methodCall_KW (pl := pl) (thn (he.run pins s σ H _ I h) fun u s1 ⟨x, H1, I1, rx, a, dx, fs, ex, ea, l, q⟩ => ?_) ht
  subst ex
  obtain rfl : u = Value.ref a := rx
  refine getmeth_ok I1 ea c hm l ?_
  exact PySem.W.callWith_K0 (first := [.ref a]) I1.kIn hm.kp (run_fnS (us := [.ref a]) (vs := [.ref a]) F hr hb (hx σ) I1 (.cons rfl .nil) q)
theorem pe_methE {pl : Sem Bool} (he : PE X o ta) (c : Cls X.K C) (hm : Meth X.K C m f) (F : FnOk X.prog X.w X.K X.mg X.base CX k f fd ps sp) (hr : Room k X.A) (hb : Binds X.K fd ps []) (hx : ∀ σ, PassesAt CX X σ (E σ)) (ha : PA X (e :: es) t)
    (hst : starEach (e :: es) X.env = (false, eval e X.env) :: starEach es X.env := by rfl) (hpl : (backTo pos (starEach es X.env)).any (·.1) = false := by rfl)
    (ht : eval (.Call (.Attribute o m apos) (e :: es) [] pos) X.env = (do
      let ov ← eval o X.env
      standAt apos.atName
      let (f, first) ← holding [ov] (getMethod ov m pl)
      callWith pos f first (backTo pos (starEach (e :: es) X.env)) (backToKw pos (keywordEach [] X.env))) := by rfl) :
    PE X (.Call (.Attribute o m apos) (e :: es) [] pos) (tMethE C m sp E ta t) := by
  refine ⟨fun pins s σ H Q I h => ?_⟩
  refine PySem.W.methodCall_KW (pl := pl) (thn (he.run pins s σ H _ I h) fun u s1 ⟨x, H1, I1, rx, a, dx, fs, ex, ea, l, q⟩ => ?_) ht
  subst ex
  obtain rfl : u = Value.ref a := rx
  refine getmeth_ok I1 ea c hm l ?_
  refine PySem.W.callWith_K (first := [.ref a]) (h₀ := X.base) I.ok.mod.kin hm.kp (thn (ha.run pos pins s1 σ H1 _ I1 q) fun us s2 ⟨vs, H2, I2, r, q2⟩ => ⟨I2.kIn, ?_⟩) hst hpl
  exact run_fnS (us := .ref a :: us) (vs := .ref a :: vs) F hr hb (hx σ) I2 (.cons rfl r) q2
end
def spNever : Sp := fun _ _ _ _ => False
theorem tyx_tup {K : PySem.W.Frag} {H : Hp} {a : Addr} {xs : List V} (h : SqT K H a xs) : TyX K H (.ref a) (.type "tuple") := by
  rcases h with (h | ⟨o, h⟩) | ⟨o, its, n, hk, hc, _⟩
  · exact .base (.tup h)
  · exact .fTuple h
  · exact .kTuple hk hc

def top (i : Nat) : Stmt := PySem.Challenge.pw_windowada_k58_constants.main.body.getD i (.Pass ⟨0, 0, 0, 0⟩)
abbrev s_is_short : Stmt := top 10
abbrev s_constant : Stmt := top 11
abbrev s_encode : Stmt := top 13
abbrev s_bits_of : Stmt := top 14
abbrev s_law_mixed : Stmt := top 16
abbrev s_law_state : Stmt := top 17
abbrev s_law_draw : Stmt := top 18
abbrev s_law_same : Stmt := top 19
abbrev s_law_word : Stmt := top 20
abbrev s_law_done : Stmt := top 21
abbrev s_law : Stmt := top 22
theorem sc_is_short : FnScope ["word", "_", "low", "high"] ["word"] (defScope s_is_short) := ⟨rfl, rfl, rfl, by decide +kernel, rfl, by decide +kernel, by decide +kernel⟩
theorem sc_constant : FnScope ["target", "word"] ["target", "word"] (defScope s_constant) := ⟨rfl, rfl, rfl, by decide +kernel, rfl, by decide +kernel, by decide +kernel⟩
theorem sc_encode : FnScope ["instruction", "name", "word", "field", "part"] ["instruction"] (defScope s_encode) := ⟨rfl, rfl, rfl, by decide +kernel, rfl, by decide +kernel, by decide +kernel⟩
theorem sc_bits_of : FnScope ["field", "part", "kind", "number", "shift", "many", "low", "high", "bits"] ["field", "part"] (defScope s_bits_of) := ⟨rfl, rfl, rfl, by decide +kernel, rfl, by decide +kernel, by decide +kernel⟩
theorem sc_law_mixed : FnScope ["number", "count", "first", "second"] ["number", "count"] (defScope s_law_mixed) := ⟨rfl, rfl, rfl, by decide +kernel, rfl, by decide +kernel, by decide +kernel⟩
theorem sc_law_state : FnScope ["script", "budget"] ["script", "budget"] (defScope s_law_state) := ⟨rfl, rfl, rfl, by decide +kernel, rfl, by decide +kernel, by decide +kernel⟩
theorem sc_law_draw : FnScope ["state", "many", "cells", "cell", "digit"] ["state", "many"] (defScope s_law_draw) := ⟨rfl, rfl, rfl, by decide +kernel, rfl, by decide +kernel, by decide +kernel⟩
theorem sc_law_same : FnScope ["actual", "due", "k"] ["actual", "due"] (defScope s_law_same) := ⟨rfl, rfl, rfl, by decide +kernel, rfl, by decide +kernel, by decide +kernel⟩
theorem sc_law_word : FnScope ["state", "choice", "near"] ["state"] (defScope s_law_word) := ⟨rfl, rfl, rfl, by decide +kernel, rfl, by decide +kernel, by decide +kernel⟩
theorem sc_law_done : FnScope ["registers", "instruction", "d", "part"] ["registers", "instruction"] (defScope s_law_done) := ⟨rfl, rfl, rfl, by decide +kernel, rfl, by decide +kernel, by decide +kernel⟩
theorem sc_law : FnScope ["script", "state", "target", "word", "actual", "size", "registers", "k", "due", "instruction", "code"] ["script"] (defScope s_law) := ⟨rfl, rfl, rfl, by decide +kernel, rfl, by decide +kernel, by decide +kernel⟩
structure Ad where
  f_is_short : Addr
  d_is_short : FuncData
  f_constant : Addr
  d_constant : FuncData
  f_encode : Addr
  d_encode : FuncData
  f_bits_of : Addr
  d_bits_of : FuncData
  f_law_mixed : Addr
  d_law_mixed : FuncData
  f_law_state : Addr
  d_law_state : FuncData
  f_law_draw : Addr
  d_law_draw : FuncData
  f_law_same : Addr
  d_law_same : FuncData
  f_law_word : Addr
  d_law_word : FuncData
  f_law_done : Addr
  d_law_done : FuncData
  f_law : Addr
  d_law : FuncData
  c_FIELDS : Addr
  c_FIELDS_d : Addr
  c_FIELDS_a : Addr
  c_FIELDS_reg : Addr
  c_FIELDS_int : Addr
  c_FIELDS_part : Addr
  c_FIELDS_far : Addr
  c_FIELDS_distance : Addr
  c_FIELDS_number : Addr
  t_FLAG : Tok
  c_FORMS : Addr
  c_FORMS_halt : Addr
  c_FORMS_add : Addr
  c_FORMS_sub : Addr
  c_FORMS_mul : Addr
  c_FORMS_div : Addr
  c_FORMS_mod : Addr
  c_FORMS_rem : Addr
  c_FORMS_less : Addr
  c_FORMS_equal : Addr
  c_FORMS_high : Addr
  c_FORMS_low : Addr
  c_FORMS_load : Addr
  c_FORMS_store : Addr
  c_FORMS_jump : Addr
  c_FORMS_branch : Addr
  c_FORMS_call : Addr
  c_FORMS_save : Addr
  c_FORMS_restore : Addr
  c_FORMS_back : Addr
  c_FORMS_raise : Addr
  c_FORMS_again : Addr
  c_FORMS_tick : Addr
  c_FORMS_put : Addr
  c_FORMS_get : Addr
  c_FORMS_below : Addr
  c_FORMS_above : Addr
  c_FORMS_bar : Addr
  c_FORMS_setbar : Addr
  c_FORMS_retry : Addr
  c_NAMES : Addr
  t_NAME_SHIFT : Tok
  t_PART : Tok
  C_AdaError : Addr
  C_ImageError : Addr
structure Txt (w : World) (K : PySem.W.Frag) (mg : Str → Option Value) (a : Ad) : Prop where
  g_is_short : mg "is_short" = some (.ref a.f_is_short)
  F_is_short : Fun K "is_short" "is_short" s_is_short a.f_is_short a.d_is_short
  k_is_short : PySem.W.keepIn K (.ref a.f_is_short) = true
  bd_is_short : Binds K a.d_is_short ["word"] []
  g_constant : mg "constant" = some (.ref a.f_constant)
  F_constant : Fun K "constant" "constant" s_constant a.f_constant a.d_constant
  k_constant : PySem.W.keepIn K (.ref a.f_constant) = true
  bd_constant : Binds K a.d_constant ["target", "word"] []
  g_encode : mg "encode" = some (.ref a.f_encode)
  F_encode : Fun K "encode" "encode" s_encode a.f_encode a.d_encode
  k_encode : PySem.W.keepIn K (.ref a.f_encode) = true
  bd_encode : Binds K a.d_encode ["instruction"] []
  g__bits_of : mg "_bits_of" = some (.ref a.f_bits_of)
  F__bits_of : Fun K "_bits_of" "_bits_of" s_bits_of a.f_bits_of a.d_bits_of
  k__bits_of : PySem.W.keepIn K (.ref a.f_bits_of) = true
  bd__bits_of : Binds K a.d_bits_of ["field", "part"] []
  g__law_mixed : mg "_law_mixed" = some (.ref a.f_law_mixed)
  F__law_mixed : Fun K "_law_mixed" "_law_mixed" s_law_mixed a.f_law_mixed a.d_law_mixed
  k__law_mixed : PySem.W.keepIn K (.ref a.f_law_mixed) = true
  bd__law_mixed : Binds K a.d_law_mixed ["number", "count"] []
  g__law_state : mg "_law_state" = some (.ref a.f_law_state)
  F__law_state : Fun K "_law_state" "_law_state" s_law_state a.f_law_state a.d_law_state
  k__law_state : PySem.W.keepIn K (.ref a.f_law_state) = true
  bd__law_state : Binds K a.d_law_state ["script", "budget"] []
  g__law_draw : mg "_law_draw" = some (.ref a.f_law_draw)
  F__law_draw : Fun K "_law_draw" "_law_draw" s_law_draw a.f_law_draw a.d_law_draw
  k__law_draw : PySem.W.keepIn K (.ref a.f_law_draw) = true
  bd__law_draw : Binds K a.d_law_draw ["state", "many"] []
  g__law_same : mg "_law_same" = some (.ref a.f_law_same)
  F__law_same : Fun K "_law_same" "_law_same" s_law_same a.f_law_same a.d_law_same
  k__law_same : PySem.W.keepIn K (.ref a.f_law_same) = true
  bd__law_same : Binds K a.d_law_same ["actual", "due"] []
  g__law_word : mg "_law_word" = some (.ref a.f_law_word)
  F__law_word : Fun K "_law_word" "_law_word" s_law_word a.f_law_word a.d_law_word
  k__law_word : PySem.W.keepIn K (.ref a.f_law_word) = true
  bd__law_word : Binds K a.d_law_word ["state"] []
  g__law_done : mg "_law_done" = some (.ref a.f_law_done)
  F__law_done : Fun K "_law_done" "_law_done" s_law_done a.f_law_done a.d_law_done
  k__law_done : PySem.W.keepIn K (.ref a.f_law_done) = true
  bd__law_done : Binds K a.d_law_done ["registers", "instruction"] []
  g_law : mg "law" = some (.ref a.f_law)
  F_law : Fun K "law" "law" s_law a.f_law a.d_law
  k_law : PySem.W.keepIn K (.ref a.f_law) = true
  bd_law : Binds K a.d_law ["script"] []
  g_FIELDS : mg "FIELDS" = some (.ref a.c_FIELDS)
  kd_FIELDS_d : KDct K w a.c_FIELDS "d" (.ref a.c_FIELDS_d)
  q_FIELDS_d : ∀ H : Hp, SqT K H a.c_FIELDS_d [.int (21), .int (5), .int (0), .int (31)]
  kd_FIELDS_a : KDct K w a.c_FIELDS "a" (.ref a.c_FIELDS_a)
  q_FIELDS_a : ∀ H : Hp, SqT K H a.c_FIELDS_a [.int (16), .int (5), .int (0), .int (31)]
  kd_FIELDS_reg : KDct K w a.c_FIELDS "reg" (.ref a.c_FIELDS_reg)
  q_FIELDS_reg : ∀ H : Hp, SqT K H a.c_FIELDS_reg [.int (0), .int (15), .int (0), .int (31)]
  kd_FIELDS_int : KDct K w a.c_FIELDS "int" (.ref a.c_FIELDS_int)
  q_FIELDS_int : ∀ H : Hp, SqT K H a.c_FIELDS_int [.int (0), .int (15), .int (-16384), .int (16383)]
  kd_FIELDS_part : KDct K w a.c_FIELDS "part" (.ref a.c_FIELDS_part)
  q_FIELDS_part : ∀ H : Hp, SqT K H a.c_FIELDS_part [.int (0), .int (15), .int (0), .int (2047)]
  kd_FIELDS_far : KDct K w a.c_FIELDS "far" (.ref a.c_FIELDS_far)
  q_FIELDS_far : ∀ H : Hp, SqT K H a.c_FIELDS_far [.int (0), .int (21), .int (-1048576), .int (1048575)]
  kd_FIELDS_distance : KDct K w a.c_FIELDS "distance" (.ref a.c_FIELDS_distance)
  q_FIELDS_distance : ∀ H : Hp, SqT K H a.c_FIELDS_distance [.int (0), .int (26), .int (-33554432), .int (33554431)]
  kd_FIELDS_number : KDct K w a.c_FIELDS "number" (.ref a.c_FIELDS_number)
  q_FIELDS_number : ∀ H : Hp, SqT K H a.c_FIELDS_number [.int (0), .int (26), .int (0), .int (67108863)]
  g_FLAG : mg "FLAG" = some (.int (32768) a.t_FLAG)
  g_FORMS : mg "FORMS" = some (.ref a.c_FORMS)
  kd_FORMS_halt : KDct K w a.c_FORMS "halt" (.ref a.c_FORMS_halt)
  q_FORMS_halt : ∀ H : Hp, SqT K H a.c_FORMS_halt []
  kd_FORMS_add : KDct K w a.c_FORMS "add" (.ref a.c_FORMS_add)
  q_FORMS_add : ∀ H : Hp, SqT K H a.c_FORMS_add [.str "d", .str "a", .str "source"]
  kd_FORMS_sub : KDct K w a.c_FORMS "sub" (.ref a.c_FORMS_sub)
  q_FORMS_sub : ∀ H : Hp, SqT K H a.c_FORMS_sub [.str "d", .str "a", .str "source"]
  kd_FORMS_mul : KDct K w a.c_FORMS "mul" (.ref a.c_FORMS_mul)
  q_FORMS_mul : ∀ H : Hp, SqT K H a.c_FORMS_mul [.str "d", .str "a", .str "source"]
  kd_FORMS_div : KDct K w a.c_FORMS "div" (.ref a.c_FORMS_div)
  q_FORMS_div : ∀ H : Hp, SqT K H a.c_FORMS_div [.str "d", .str "a", .str "source"]
  kd_FORMS_mod : KDct K w a.c_FORMS "mod" (.ref a.c_FORMS_mod)
  q_FORMS_mod : ∀ H : Hp, SqT K H a.c_FORMS_mod [.str "d", .str "a", .str "source"]
  kd_FORMS_rem : KDct K w a.c_FORMS "rem" (.ref a.c_FORMS_rem)
  q_FORMS_rem : ∀ H : Hp, SqT K H a.c_FORMS_rem [.str "d", .str "a", .str "source"]
  kd_FORMS_less : KDct K w a.c_FORMS "less" (.ref a.c_FORMS_less)
  q_FORMS_less : ∀ H : Hp, SqT K H a.c_FORMS_less [.str "d", .str "a", .str "source"]
  kd_FORMS_equal : KDct K w a.c_FORMS "equal" (.ref a.c_FORMS_equal)
  q_FORMS_equal : ∀ H : Hp, SqT K H a.c_FORMS_equal [.str "d", .str "a", .str "source"]
  kd_FORMS_high : KDct K w a.c_FORMS "high" (.ref a.c_FORMS_high)
  q_FORMS_high : ∀ H : Hp, SqT K H a.c_FORMS_high [.str "d", .str "far"]
  kd_FORMS_low : KDct K w a.c_FORMS "low" (.ref a.c_FORMS_low)
  q_FORMS_low : ∀ H : Hp, SqT K H a.c_FORMS_low [.str "d", .str "a", .str "part"]
  kd_FORMS_load : KDct K w a.c_FORMS "load" (.ref a.c_FORMS_load)
  q_FORMS_load : ∀ H : Hp, SqT K H a.c_FORMS_load [.str "d", .str "a", .str "source"]
  kd_FORMS_store : KDct K w a.c_FORMS "store" (.ref a.c_FORMS_store)
  q_FORMS_store : ∀ H : Hp, SqT K H a.c_FORMS_store [.str "d", .str "a", .str "source"]
  kd_FORMS_jump : KDct K w a.c_FORMS "jump" (.ref a.c_FORMS_jump)
  q_FORMS_jump : ∀ H : Hp, SqT K H a.c_FORMS_jump [.str "distance"]
  kd_FORMS_branch : KDct K w a.c_FORMS "branch" (.ref a.c_FORMS_branch)
  q_FORMS_branch : ∀ H : Hp, SqT K H a.c_FORMS_branch [.str "d", .str "far"]
  kd_FORMS_call : KDct K w a.c_FORMS "call" (.ref a.c_FORMS_call)
  q_FORMS_call : ∀ H : Hp, SqT K H a.c_FORMS_call [.str "number"]
  kd_FORMS_save : KDct K w a.c_FORMS "save" (.ref a.c_FORMS_save)
  q_FORMS_save : ∀ H : Hp, SqT K H a.c_FORMS_save [.str "d", .str "a", .str "source"]
  kd_FORMS_restore : KDct K w a.c_FORMS "restore" (.ref a.c_FORMS_restore)
  q_FORMS_restore : ∀ H : Hp, SqT K H a.c_FORMS_restore []
  kd_FORMS_back : KDct K w a.c_FORMS "back" (.ref a.c_FORMS_back)
  q_FORMS_back : ∀ H : Hp, SqT K H a.c_FORMS_back []
  kd_FORMS_raise : KDct K w a.c_FORMS "raise" (.ref a.c_FORMS_raise)
  q_FORMS_raise : ∀ H : Hp, SqT K H a.c_FORMS_raise [.str "number"]
  kd_FORMS_again : KDct K w a.c_FORMS "again" (.ref a.c_FORMS_again)
  q_FORMS_again : ∀ H : Hp, SqT K H a.c_FORMS_again [.str "a", .str "source"]
  kd_FORMS_tick : KDct K w a.c_FORMS "tick" (.ref a.c_FORMS_tick)
  q_FORMS_tick : ∀ H : Hp, SqT K H a.c_FORMS_tick []
  kd_FORMS_put : KDct K w a.c_FORMS "put" (.ref a.c_FORMS_put)
  q_FORMS_put : ∀ H : Hp, SqT K H a.c_FORMS_put [.str "source"]
  kd_FORMS_get : KDct K w a.c_FORMS "get" (.ref a.c_FORMS_get)
  q_FORMS_get : ∀ H : Hp, SqT K H a.c_FORMS_get [.str "d"]
  kd_FORMS_below : KDct K w a.c_FORMS "below" (.ref a.c_FORMS_below)
  q_FORMS_below : ∀ H : Hp, SqT K H a.c_FORMS_below [.str "a", .str "source"]
  kd_FORMS_above : KDct K w a.c_FORMS "above" (.ref a.c_FORMS_above)
  q_FORMS_above : ∀ H : Hp, SqT K H a.c_FORMS_above [.str "a", .str "source"]
  kd_FORMS_bar : KDct K w a.c_FORMS "bar" (.ref a.c_FORMS_bar)
  q_FORMS_bar : ∀ H : Hp, SqT K H a.c_FORMS_bar [.str "d"]
  kd_FORMS_setbar : KDct K w a.c_FORMS "setbar" (.ref a.c_FORMS_setbar)
  q_FORMS_setbar : ∀ H : Hp, SqT K H a.c_FORMS_setbar [.str "source"]
  kd_FORMS_retry : KDct K w a.c_FORMS "retry" (.ref a.c_FORMS_retry)
  q_FORMS_retry : ∀ H : Hp, SqT K H a.c_FORMS_retry []
  g_NAMES : mg "NAMES" = some (.ref a.c_NAMES)
  q_NAMES : ∀ H : Hp, SqT K H a.c_NAMES [.str "halt", .str "add", .str "sub", .str "mul", .str "div", .str "mod", .str "rem", .str "less", .str "equal", .str "high", .str "low", .str "load", .str "store", .str "jump", .str "branch", .str "call", .str "save", .str "restore", .str "back", .str "raise", .str "again", .str "tick", .str "put", .str "get", .str "below", .str "above", .str "bar", .str "setbar", .str "retry"]
  y_NAMES : ∃ o, K.lookup a.c_NAMES = some o ∧ o.cls = .type "tuple" ∧ o.dict = none
  g_NAME_SHIFT : mg "NAME_SHIFT" = some (.int (26) a.t_NAME_SHIFT)
  g_PART : mg "PART" = some (.int (2048) a.t_PART)
  b_abs : mg "abs" = none
  b_all : mg "all" = none
  b_bool : mg "bool" = none
  b_int : mg "int" = none
  b_isinstance : mg "isinstance" = none
  b_len : mg "len" = none
  b_list : mg "list" = none
  b_max : mg "max" = none
  b_min : mg "min" = none
  b_range : mg "range" = none
  b_str : mg "str" = none
  b_sum : mg "sum" = none
  b_tuple : mg "tuple" = none
  b_zip : mg "zip" = none
  g_AdaError : mg "AdaError" = some (.ref a.C_AdaError)
  x_AdaError : PySem.W.excIn K a.C_AdaError [.type "ValueError", .type "Exception", .type "BaseException", .type "object"] "ValueError.__new__" = true
  kC_AdaError : PySem.W.keepIn K (.ref a.C_AdaError) = true
  s1_AdaError : PySem.W.subIn K (.ref a.C_AdaError) (.type "BaseException") = some true
  ty_AdaError : PySem.W.typeIn K (.ref a.C_AdaError) = some (.type "type")
  ic_AdaError : PySem.W.isClsIn K a.C_AdaError = true
  g_ImageError : mg "ImageError" = some (.ref a.C_ImageError)
  x_ImageError : PySem.W.excIn K a.C_ImageError [.type "ValueError", .type "Exception", .type "BaseException", .type "object"] "ValueError.__new__" = true
  kC_ImageError : PySem.W.keepIn K (.ref a.C_ImageError) = true
  s1_ImageError : PySem.W.subIn K (.ref a.C_ImageError) (.type "BaseException") = some true
  ty_ImageError : PySem.W.typeIn K (.ref a.C_ImageError) = some (.type "type")
  ic_ImageError : PySem.W.isClsIn K a.C_ImageError = true
/-! ### rules of a block over a fixed K -/
theorem ix_tupK {X : Cx} {K : PySem.W.Frag} (h : X.K = K) : IxR X (rIxT K) := by
  subst h
  exact ix_tup
theorem ix_listK {X : Cx} {K : PySem.W.Frag} (h : X.K = K) : IxR X (rIxL K) := by
  subst h
  exact ix_list
theorem call_isiK {X : Cx} {K : PySem.W.Frag} (h : X.K = K) : CallR X (.builtin "isinstance") (rIsi K) := by
  subst h
  exact call_isi
theorem sTr {H H1 H2 : Hp} (x : Same H H1) (y : Same H1 H2) : Same H H2 := fun b o e => y b o (x b o e)
/-! ### data without lists -/
mutual
inductive DT (K : PySem.W.Frag) (H : Hp) : V → PyData → Prop
  | non : DT K H .non .none
  | bl (b : Bool) : DT K H (.bl b) (.bool b)
  | int (i : Int) : DT K H (.int i) (.int i)
  | str (x : Str) : DT K H (.str x) (.str x)
  | tup {a : Addr} {xs : List V} {ds : List PyData} : SqT K H a xs → DTs K H xs ds → DT K H (.ref a) (.tuple ds)
inductive DTs (K : PySem.W.Frag) (H : Hp) : List V → List PyData → Prop
  | nil : DTs K H [] []
  | cons {v : V} {vs : List V} {d : PyData} {ds : List PyData} : DT K H v d → DTs K H vs ds → DTs K H (v :: vs) (d :: ds)
end
section
variable {K : PySem.W.Frag} {H H' H2 : Hp}
theorem DTs.len : ∀ {vs : List V} {ds : List PyData}, DTs K H vs ds → vs.length = ds.length
  | _, _, .nil => rfl
  | _, _, .cons _ r => congrArg (· + 1) r.len
theorem DTs.get : ∀ {vs : List V} {ds : List PyData} {i : Nat} {d : PyData}, DTs K H vs ds → ds[i]? = some d → ∃ v, vs[i]? = some v ∧ DT K H v d
  | _, _, _, _, .nil, e => by simp at e
  | _, _, 0, _, .cons h _, e => by
    obtain rfl := Option.some.inj e
    exact ⟨_, rfl, h⟩
  | _, _, i + 1, d, .cons _ r, e => by
    obtain ⟨v, h1, h2⟩ := r.get (i := i) (d := d) (by simpa using e)
    exact ⟨v, by simpa using h1, h2⟩
theorem DTs.at : ∀ {vs : List V} {ds : List PyData} {i : Nat} {v : V}, DTs K H vs ds → vs[i]? = some v → ∃ d, ds[i]? = some d ∧ DT K H v d
  | _, _, _, _, .nil, e => by simp at e
  | _, _, 0, _, .cons h _, e => by
    obtain rfl := Option.some.inj e
    exact ⟨_, rfl, h⟩
  | _, _, i + 1, v, .cons _ r, e => by
    obtain ⟨d, h1, h2⟩ := r.at (i := i) (v := v) (by simpa using e)
    exact ⟨d, by simpa using h1, h2⟩
theorem DTs.app : ∀ {vs ws : List V} {ds es : List PyData}, DTs K H vs ds → DTs K H ws es → DTs K H (vs ++ ws) (ds ++ es)
  | _, _, _, _, .nil, s => s
  | _, _, _, _, .cons h r, s => .cons h (r.app s)
/-- tuples stay -/
def KT (K : PySem.W.Frag) (H H' : Hp) : Prop := ∀ a xs, SqT K H a xs → SqT K H' a xs
theorem KT.same (s : Same H H') : KT K H H' := fun _ _ h => seqT s h
theorem KT.tr (x : KT K H H') (y : KT K H' H2) : KT K H H2 := fun a xs h => y a xs (x a xs h)
theorem KT.put {p : Addr} {ys : List V} {o : HO} (e : H p = some (.lst ys)) : KT K H (upd H p o) := fun a xs h => by
  rcases h with (h | ⟨u, h⟩) | h
  · exact .inl (.inl (by rw [upd_ne (ne_of h e fun z => nomatch z)]; exact h))
  · exact .inl (.inr ⟨u, by rw [upd_ne (ne_of h e fun z => nomatch z)]; exact h⟩)
  · exact .inr h
theorem KT.new {p : Addr} {o : HO} (n : H p = none) : KT K H (upd H p o) := .same (sN (Same.refl H) n)
mutual
theorem DT.keep (k : KT K H H') : ∀ {v : V} {d : PyData}, DT K H v d → DT K H' v d
  | _, _, .non => .non
  | _, _, .bl b => .bl b
  | _, _, .int b => .int b
  | _, _, .str b => .str b
  | _, _, .tup h r => .tup (k _ _ h) (r.keep k)
theorem DTs.keep (k : KT K H H') : ∀ {vs : List V} {ds : List PyData}, DTs K H vs ds → DTs K H' vs ds
  | _, _, .nil => .nil
  | _, _, .cons h r => .cons (h.keep k) (r.keep k)
end
def isTup : PyData → Bool
  | .tuple _ => true
  | _ => false
theorem DT.isT {v : V} {d : PyData} (h : DT K H v d) : ∃ t, TyX K H v t ∧ PySem.W.kitOne K t (.type "tuple") = some (isTup d) := by
  cases h with
  | non => exact ⟨_, .base .non, kit_ty (by decide +kernel : kitB "NoneType" "tuple" = some false)⟩
  | bl b => exact ⟨_, .base (.bl b), kit_ty (by decide +kernel : kitB "bool" "tuple" = some false)⟩
  | int b => exact ⟨_, .base (.int b), kit_ty (by decide +kernel : kitB "int" "tuple" = some false)⟩
  | str b => exact ⟨_, .base (.str b), kit_ty (by decide +kernel : kitB "str" "tuple" = some false)⟩
  | tup h r => exact ⟨_, tyx_tup h, kit_ty (by decide +kernel : kitB "tuple" "tuple" = some true)⟩
end

/-! ### fields and forms -/
def nms : List Str := ["halt", "add", "sub", "mul", "div", "mod", "rem", "less", "equal", "high", "low", "load", "store", "jump", "branch", "call", "save", "restore", "back", "raise", "again", "tick", "put", "get", "below", "above", "bar", "setbar", "retry"]
def nmS (k : Nat) : Str := nms.getD k ""
def fS (f : Nat) : Str := (["d", "a", "reg", "int", "part", "far", "distance", "number", "source"] : List Str).getD f ""
def fSh (f : Nat) : Int := ([21, 16, 0, 0, 0, 0, 0, 0] : List Int).getD f 0
def fMn (f : Nat) : Int := ([5, 5, 15, 15, 15, 21, 26, 26] : List Int).getD f 0
def fLo (f : Nat) : Int := ([0, 0, 0, -16384, 0, -1048576, -33554432, 0] : List Int).getD f 0
def fHi (f : Nat) : Int := ([31, 31, 31, 16383, 2047, 1048575, 33554431, 67108863] : List Int).getD f 0
def fm (k : Nat) : List Nat := ([[], [0, 1, 8], [0, 1, 8], [0, 1, 8], [0, 1, 8], [0, 1, 8], [0, 1, 8], [0, 1, 8], [0, 1, 8], [0, 5], [0, 1, 4], [0, 1, 8], [0, 1, 8], [6], [0, 5], [7], [0, 1, 8], [], [], [7], [1, 8], [], [8], [0], [1, 8], [1, 8], [0], [8], []] : List (List Nat)).getD k []
theorem fs_src : ∀ f : _root_.Fin 9, decide (V.str (fS f.val) = V.str "source") = decide (f.val = 8) := by decide +kernel
theorem fs_flag : ∀ f : _root_.Fin 8, inV (.str (fS f.val)) [V.str "int", V.str "part"] = decide (f.val = 3 ∨ f.val = 4) := by decide +kernel
theorem nm_first : ∀ k : _root_.Fin 29, nms[k.val]? = some (nmS k.val) ∧ ∀ m : _root_.Fin 29, m.val < k.val → nms[m.val]? ≠ some (nmS k.val) := by decide +kernel
theorem fm_lt : ∀ k : _root_.Fin 29, ∀ f ∈ fm k.val, f < 9 := by decide +kernel
theorem mask5 (x : Int) : Builtin.bitAnd x 31 = x % 32 := PyProof.Rows.bitAnd_m5 x
theorem mask15 (x : Int) : Builtin.bitAnd x 32767 = x % 32768 := by
  by_cases c : 0 ≤ x
  · rw [PyProof.Rows.bitAnd_pp c (by decide), show x.toNat &&& (32767 : Int).toNat = x.toNat % 32768 from Nat.and_two_pow_sub_one_eq_mod x.toNat 15]; omega
  · rw [PyProof.Rows.bitAnd_np c (by decide), show (32767 : Int).toNat &&& (Builtin.bitNot x).toNat = (Builtin.bitNot x).toNat % 32768 by rw [Nat.and_comm]; exact Nat.and_two_pow_sub_one_eq_mod (Builtin.bitNot x).toNat 15]; unfold Builtin.bitNot; omega
theorem mask21 (x : Int) : Builtin.bitAnd x 2097151 = x % 2097152 := by
  by_cases c : 0 ≤ x
  · rw [PyProof.Rows.bitAnd_pp c (by decide), show x.toNat &&& (2097151 : Int).toNat = x.toNat % 2097152 from Nat.and_two_pow_sub_one_eq_mod x.toNat 21]; omega
  · rw [PyProof.Rows.bitAnd_np c (by decide), show (2097151 : Int).toNat &&& (Builtin.bitNot x).toNat = (Builtin.bitNot x).toNat % 2097152 by rw [Nat.and_comm]; exact Nat.and_two_pow_sub_one_eq_mod (Builtin.bitNot x).toNat 21]; unfold Builtin.bitNot; omega
theorem mask26 (x : Int) : Builtin.bitAnd x 67108863 = x % 67108864 := by
  by_cases c : 0 ≤ x
  · rw [PyProof.Rows.bitAnd_pp c (by decide), show x.toNat &&& (67108863 : Int).toNat = x.toNat % 67108864 from Nat.and_two_pow_sub_one_eq_mod x.toNat 26]; omega
  · rw [PyProof.Rows.bitAnd_np c (by decide), show (67108863 : Int).toNat &&& (Builtin.bitNot x).toNat = (Builtin.bitNot x).toNat % 67108864 by rw [Nat.and_comm]; exact Nat.and_two_pow_sub_one_eq_mod (Builtin.bitNot x).toNat 26]; unfold Builtin.bitNot; omega
def fMod (f : Nat) : Int := ([32, 32, 32768, 32768, 32768, 2097152, 67108864, 67108864] : List Int).getD f 1
def fMul (f : Nat) : Int := ([2097152, 65536, 1, 1, 1, 1, 1, 1] : List Int).getD f 1
theorem bits_and (f : Nat) (h : f < 8) (x : Int) : Builtin.bitAnd x (1 * 2 ^ (fMn f).toNat - 1) * 2 ^ (fSh f).toNat = x % fMod f * fMul f := by
  match f, h with
  | 0, _ => exact congrArg (· * (2097152 : Int)) (mask5 x)
  | 1, _ => exact congrArg (· * (65536 : Int)) (mask5 x)
  | 2, _ => exact congrArg (· * (1 : Int)) (mask15 x)
  | 3, _ => exact congrArg (· * (1 : Int)) (mask15 x)
  | 4, _ => exact congrArg (· * (1 : Int)) (mask15 x)
  | 5, _ => exact congrArg (· * (1 : Int)) (mask21 x)
  | 6, _ => exact congrArg (· * (1 : Int)) (mask26 x)
  | 7, _ => exact congrArg (· * (1 : Int)) (mask26 x)
theorem fsh_ok : ∀ f : _root_.Fin 8, 0 ≤ fSh f.val ∧ fSh f.val ≤ 1000000 ∧ 0 ≤ fMn f.val ∧ fMn f.val ≤ 1000000 := by decide +kernel
theorem and_small (f : Nat) (h : f < 8) (x : Int) : (Builtin.bitAnd x (1 * 2 ^ (fMn f).toNat - 1)).natAbs < 2 ^ 64 := by
  have hm : ∀ m : Int, 0 < m → m < 2 ^ 60 → (x % m).natAbs < 2 ^ 64 := fun m h1 h2 => by
    have := Int.emod_nonneg x (b := m) (by omega)
    have := Int.emod_lt_of_pos x h1
    omega
  match f, h with
  | 0, _ => exact (congrArg (fun z : Int => z.natAbs < 2 ^ 64) (mask5 x)).mpr (hm _ (by decide) (by decide))
  | 1, _ => exact (congrArg (fun z : Int => z.natAbs < 2 ^ 64) (mask5 x)).mpr (hm _ (by decide) (by decide))
  | 2, _ => exact (congrArg (fun z : Int => z.natAbs < 2 ^ 64) (mask15 x)).mpr (hm _ (by decide) (by decide))
  | 3, _ => exact (congrArg (fun z : Int => z.natAbs < 2 ^ 64) (mask15 x)).mpr (hm _ (by decide) (by decide))
  | 4, _ => exact (congrArg (fun z : Int => z.natAbs < 2 ^ 64) (mask15 x)).mpr (hm _ (by decide) (by decide))
  | 5, _ => exact (congrArg (fun z : Int => z.natAbs < 2 ^ 64) (mask21 x)).mpr (hm _ (by decide) (by decide))
  | 6, _ => exact (congrArg (fun z : Int => z.natAbs < 2 ^ 64) (mask26 x)).mpr (hm _ (by decide) (by decide))
  | 7, _ => exact (congrArg (fun z : Int => z.natAbs < 2 ^ 64) (mask26 x)).mpr (hm _ (by decide) (by decide))
/-- what stands in a field: a number, or an operand's kind (an int: true) and number -/
inductive Ar where
  | n (x : Int)
  | s (b : Bool) (x : Int)
def okF (f : Nat) (x : Int) : Bool := cond (decide (fLo f ≤ x)) (decide (x ≤ fHi f)) false
def bitF (f : Nat) (x : Int) : Int := if decide (f = 3 ∨ f = 4) = true then x % fMod f * fMul f + 32768 else x % fMod f * fMul f
def kdS (b : Bool) : Nat := if b = true then 3 else 2
def okA : Nat → Ar → Bool
  | f, .n x => okF f x
  | _, .s b x => okF (kdS b) x
def bitA : Nat → Ar → Int
  | f, .n x => bitF f x
  | _, .s b x => bitF (kdS b) x
def wtA : Nat → Ar → Prop
  | f, .n _ => f < 8
  | f, .s _ _ => f = 8
def sumB : List Nat → List Ar → Int
  | f :: fs, x :: xs => bitA f x + sumB fs xs
  | _, _ => 0
def okS : List Nat → List Ar → Bool
  | f :: fs, x :: xs => cond (okA f x) (okS fs xs) false
  | _, _ => true
def wtS : List Nat → List Ar → Prop
  | [], [] => True
  | f :: fs, x :: xs => wtA f x ∧ wtS fs xs
  | _, _ => False
def encV (k : Nat) (xs : List Ar) : Int := (k : Int) * 67108864 + sumB (fm k) xs
inductive ArV (K : PySem.W.Frag) (H : Hp) : V → Ar → Prop
  | n (x : Int) : ArV K H (.int x) (.n x)
  | s {p : Addr} {b : Bool} {x : Int} (h : SqT K H p [.str (fS (kdS b)), .int x]) : ArV K H (.ref p) (.s b x)
theorem ArV.same {K : PySem.W.Frag} {H H' : Hp} {v : V} {x : Ar} (h : ArV K H v x) (s : Same H H') : ArV K H' v x := by
  cases h with
  | n x => exact .n x
  | s h => exact .s (seqT s h)
inductive ArVs (K : PySem.W.Frag) (H : Hp) : List V → List Ar → Prop
  | nil : ArVs K H [] []
  | cons {v : V} {vs : List V} {x : Ar} {xs : List Ar} : ArV K H v x → ArVs K H vs xs → ArVs K H (v :: vs) (x :: xs)
theorem ArVs.same {K : PySem.W.Frag} {H H' : Hp} (s : Same H H') : ∀ {vs : List V} {xs : List Ar}, ArVs K H vs xs → ArVs K H' vs xs
  | _, _, .nil => .nil
  | _, _, .cons h r => .cons (h.same s) (r.same s)
theorem ArVs.len {K : PySem.W.Frag} {H : Hp} : ∀ {vs : List V} {xs : List Ar}, ArVs K H vs xs → vs.length = xs.length
  | _, _, .nil => rfl
  | _, _, .cons _ r => congrArg (· + 1) r.len
theorem ArVs.get {K : PySem.W.Frag} {H : Hp} : ∀ {vs : List V} {xs : List Ar} {i : Nat} {v : V}, ArVs K H vs xs → vs[i]? = some v → ∃ x, xs[i]? = some x ∧ ArV K H v x
  | _, _, _, _, .nil, e => by simp at e
  | _, _, 0, _, .cons h _, e => by
    obtain rfl := Option.some.inj e
    exact ⟨_, rfl, h⟩
  | _, _, i + 1, v, .cons _ r, e => by
    obtain ⟨x, h1, h2⟩ := r.get (i := i) (v := v) (by simpa using e)
    exact ⟨x, by simpa using h1, h2⟩
theorem wtS.len : ∀ {fs : List Nat} {xs : List Ar}, wtS fs xs → fs.length = xs.length
  | [], [], _ => rfl
  | _ :: _, _ :: _, h => congrArg (· + 1) (wtS.len h.2)
  | [], _ :: _, h => h.elim
  | _ :: _, [], h => h.elim
theorem wtS.get : ∀ {fs : List Nat} {xs : List Ar} {i : Nat} {f : Nat} {x : Ar}, wtS fs xs → fs[i]? = some f → xs[i]? = some x → wtA f x
  | f0 :: fs, x0 :: xs, 0, f, x, h, e1, e2 => by
    obtain rfl := Option.some.inj e1
    obtain rfl := Option.some.inj e2
    exact h.1
  | f0 :: fs, x0 :: xs, i + 1, f, x, h, e1, e2 => wtS.get (i := i) h.2 (by simpa using e1) (by simpa using e2)
  | [], _, _, _, _, _, e1, _ => by simp at e1
  | _ :: _, [], _, _, _, h, _, _ => h.elim
theorem sum_take : ∀ (fs : List Nat) (xs : List Ar) (i f : Nat) (x : Ar), fs[i]? = some f → xs[i]? = some x → sumB (fs.take (i + 1)) (xs.take (i + 1)) = sumB (fs.take i) (xs.take i) + bitA f x
  | f0 :: fs, x0 :: xs, 0, f, x, e1, e2 => by
    obtain rfl := Option.some.inj e1
    obtain rfl := Option.some.inj e2
    show bitA f0 x0 + sumB (fs.take 0) (xs.take 0) = 0 + bitA f0 x0
    rw [List.take_zero]
    show bitA f0 x0 + 0 = 0 + bitA f0 x0
    omega
  | f0 :: fs, x0 :: xs, i + 1, f, x, e1, e2 => by
    have := sum_take fs xs i f x (by simpa using e1) (by simpa using e2)
    show bitA f0 x0 + sumB (fs.take (i + 1)) (xs.take (i + 1)) = bitA f0 x0 + sumB (fs.take i) (xs.take i) + bitA f x
    omega
  | [], _, _, _, _, e1, _ => by simp at e1
  | _ :: _, [], _, _, _, _, e2 => by simp at e2
theorem okS_at : ∀ (fs : List Nat) (xs : List Ar) (i f : Nat) (x : Ar), fs[i]? = some f → xs[i]? = some x → okS fs xs = true → okA f x = true
  | f0 :: fs, x0 :: xs, 0, f, x, e1, e2, h => by
    obtain rfl := Option.some.inj e1
    obtain rfl := Option.some.inj e2
    cases c : okA f0 x0 with
    | true => rfl
    | false => have h' : cond (okA f0 x0) (okS fs xs) false = true := h; rw [c] at h'; exact h'
  | f0 :: fs, x0 :: xs, i + 1, f, x, e1, e2, h => by
    refine okS_at fs xs i f x (by simpa using e1) (by simpa using e2) ?_
    have h' : cond (okA f0 x0) (okS fs xs) false = true := h
    cases c : okA f0 x0 with
    | true => rw [c] at h'; exact h'
    | false => rw [c] at h'; exact nomatch h'
  | [], _, _, _, _, e1, _, _ => by simp at e1
  | _ :: _, [], _, _, _, _, e2, _ => by simp at e2
theorem okS_all : ∀ (fs : List Nat) (xs : List Ar), fs.length = xs.length → (∀ (i f : Nat) (x : Ar), fs[i]? = some f → xs[i]? = some x → okA f x = true) → okS fs xs = true
  | [], _, _, _ => rfl
  | _ :: _, [], h, _ => nomatch h
  | f :: fs, x :: xs, h, k => by
    show cond (okA f x) (okS fs xs) false = true
    rw [k 0 f x rfl rfl]
    exact okS_all fs xs (Nat.succ.inj h) fun i g y e1 e2 => k (i + 1) g y (by simpa using e1) (by simpa using e2)
def spBits (K : PySem.W.Frag) (C : Addr) (n : Nat) : Sp := fun vs H Q E => ∃ (f : Nat) (v : V) (x : Ar), f < 9 ∧ vs = [.str (fS f), v] ∧ ArV K H v x ∧ wtA f x ∧ (f < 8 ∨ n = 1) ∧ ∀ H', Same H H' → (okA f x = true → Q (.int (bitA f x)) H') ∧ (okA f x = false → E (.ref C) none H')
def spEnc (K : PySem.W.Frag) (C : Addr) : Sp := fun vs H Q E => ∃ (ip : Addr) (k : Nat) (ws : List V) (xs : List Ar), k < 29 ∧ vs = [.ref ip] ∧ SqT K H ip (.str (nmS k) :: ws) ∧ ArVs K H ws xs ∧ wtS (fm k) xs ∧ ∀ H', Same H H' → (okS (fm k) xs = true → Q (.int (encV k xs)) H') ∧ (okS (fm k) xs = false → E (.ref C) none H')
def spEncC (K : PySem.W.Frag) : Sp := fun vs H Q _ => ∃ (ip : Addr) (k : Nat) (ws : List V) (xs : List Ar), k < 29 ∧ vs = [.ref ip] ∧ SqT K H ip (.str (nmS k) :: ws) ∧ ArVs K H ws xs ∧ wtS (fm k) xs ∧ okS (fm k) xs = true ∧ ∀ H', Same H H' → Q (.int (encV k xs)) H'
section
variable {P : Program} {w : World} {K : PySem.W.Frag} {mg : Str → Option Value} {base : Heap} {a : Ad}
theorem field_at (T : Txt w K mg a) : ∀ f, f < 8 → ∃ p, KDct K w a.c_FIELDS (fS f) (.ref p) ∧ ∀ H : Hp, SqT K H p [.int (fSh f), .int (fMn f), .int (fLo f), .int (fHi f)]
  | 0, _ => ⟨_, T.kd_FIELDS_d, T.q_FIELDS_d⟩
  | 1, _ => ⟨_, T.kd_FIELDS_a, T.q_FIELDS_a⟩
  | 2, _ => ⟨_, T.kd_FIELDS_reg, T.q_FIELDS_reg⟩
  | 3, _ => ⟨_, T.kd_FIELDS_int, T.q_FIELDS_int⟩
  | 4, _ => ⟨_, T.kd_FIELDS_part, T.q_FIELDS_part⟩
  | 5, _ => ⟨_, T.kd_FIELDS_far, T.q_FIELDS_far⟩
  | 6, _ => ⟨_, T.kd_FIELDS_distance, T.q_FIELDS_distance⟩
  | 7, _ => ⟨_, T.kd_FIELDS_number, T.q_FIELDS_number⟩
  | f + 8, h => by omega
theorem form_at (T : Txt w K mg a) : ∀ k, k < 29 → ∃ p, KDct K w a.c_FORMS (nmS k) (.ref p) ∧ ∀ H : Hp, SqT K H p ((fm k).map fun f => V.str (fS f))
  | 0, _ => ⟨_, T.kd_FORMS_halt, T.q_FORMS_halt⟩
  | 1, _ => ⟨_, T.kd_FORMS_add, T.q_FORMS_add⟩
  | 2, _ => ⟨_, T.kd_FORMS_sub, T.q_FORMS_sub⟩
  | 3, _ => ⟨_, T.kd_FORMS_mul, T.q_FORMS_mul⟩
  | 4, _ => ⟨_, T.kd_FORMS_div, T.q_FORMS_div⟩
  | 5, _ => ⟨_, T.kd_FORMS_mod, T.q_FORMS_mod⟩
  | 6, _ => ⟨_, T.kd_FORMS_rem, T.q_FORMS_rem⟩
  | 7, _ => ⟨_, T.kd_FORMS_less, T.q_FORMS_less⟩
  | 8, _ => ⟨_, T.kd_FORMS_equal, T.q_FORMS_equal⟩
  | 9, _ => ⟨_, T.kd_FORMS_high, T.q_FORMS_high⟩
  | 10, _ => ⟨_, T.kd_FORMS_low, T.q_FORMS_low⟩
  | 11, _ => ⟨_, T.kd_FORMS_load, T.q_FORMS_load⟩
  | 12, _ => ⟨_, T.kd_FORMS_store, T.q_FORMS_store⟩
  | 13, _ => ⟨_, T.kd_FORMS_jump, T.q_FORMS_jump⟩
  | 14, _ => ⟨_, T.kd_FORMS_branch, T.q_FORMS_branch⟩
  | 15, _ => ⟨_, T.kd_FORMS_call, T.q_FORMS_call⟩
  | 16, _ => ⟨_, T.kd_FORMS_save, T.q_FORMS_save⟩
  | 17, _ => ⟨_, T.kd_FORMS_restore, T.q_FORMS_restore⟩
  | 18, _ => ⟨_, T.kd_FORMS_back, T.q_FORMS_back⟩
  | 19, _ => ⟨_, T.kd_FORMS_raise, T.q_FORMS_raise⟩
  | 20, _ => ⟨_, T.kd_FORMS_again, T.q_FORMS_again⟩
  | 21, _ => ⟨_, T.kd_FORMS_tick, T.q_FORMS_tick⟩
  | 22, _ => ⟨_, T.kd_FORMS_put, T.q_FORMS_put⟩
  | 23, _ => ⟨_, T.kd_FORMS_get, T.q_FORMS_get⟩
  | 24, _ => ⟨_, T.kd_FORMS_below, T.q_FORMS_below⟩
  | 25, _ => ⟨_, T.kd_FORMS_above, T.q_FORMS_above⟩
  | 26, _ => ⟨_, T.kd_FORMS_bar, T.q_FORMS_bar⟩
  | 27, _ => ⟨_, T.kd_FORMS_setbar, T.q_FORMS_setbar⟩
  | 28, _ => ⟨_, T.kd_FORMS_retry, T.q_FORMS_retry⟩
  | k + 29, h => by omega
end

/-! ### slices -/
theorem cut_lo (xs : List V) (a : Nat) : cutV xs (some (a : Int)) none = xs.drop a := by
  unfold cutV
  rw [HT.sIx_nat, HT.sIx_none]
  by_cases h : a ≤ xs.length
  · rw [Nat.min_eq_left h, List.take_of_length_le (by rw [List.length_drop]; omega)]
  · rw [Nat.min_eq_right (by omega), List.drop_eq_nil_of_le (Nat.le_refl _), List.drop_eq_nil_of_le (show xs.length ≤ a by omega), List.take_nil]
theorem cut_hi (xs : List V) (b : Nat) : cutV xs none (some (b : Int)) = xs.take b := by
  unfold cutV
  rw [HT.sIx_nat, HT.sIx_none, List.drop_zero, Nat.sub_zero]
  by_cases h : b ≤ xs.length
  · rw [Nat.min_eq_left h]
  · rw [Nat.min_eq_right (by omega), List.take_of_length_le (Nat.le_refl _), List.take_of_length_le (show xs.length ≤ b by omega)]
theorem cut_mid (xs : List V) (a b : Nat) (h : a ≤ b) (h2 : b ≤ xs.length) : cutV xs (some (a : Int)) (some (b : Int)) = (xs.drop a).take (b - a) := by
  unfold cutV
  rw [HT.sIx_nat, HT.sIx_nat, Nat.min_eq_left (show a ≤ xs.length by omega), Nat.min_eq_left h2]
theorem rep_int (n : Nat) : (List.replicate n [V.int 0]).flatten = (List.replicate n (0 : Int)).map V.int := by
  induction n with
  | zero => rfl
  | succ n ih => rw [List.replicate_succ, List.flatten_cons, ih, List.replicate_succ]; rfl
theorem at_map {ys : List Int} {j : Nat} (h : j < ys.length) : (ys.map V.int)[j]? = some (V.int (ys.getD j 0)) := by
  rw [List.getElem?_map, List.getD_eq_getElem?_getD, List.getElem?_eq_getElem h] <;> rfl
theorem ixN_nat {n j : Nat} (h : j < n) : ixN n (j : Int) = some j := by
  unfold ixN
  rw [if_pos (by omega), if_pos (by omega), Int.toNat_natCast]
theorem set_int {ys : List Int} {j : Nat} {w : Int} : (ys.map V.int).set j (V.int w) = (ys.set j w).map V.int := by rw [List.map_set]
theorem sz {n : Nat} (h : n ≤ 900) : n < sizeLine := small1000 (by omega)

section
variable {P : Program} {w : World} {K : PySem.W.Frag} {mg : Str → Option Value} {base : Heap} {a : Ad}
theorem ok_bits_aux (T : Txt w K mg a) (n k : Nat) (sp' : Sp) (G_bits_of : FnOk P w K mg base (L2.CX P w) k a.f_bits_of a.d_bits_of ["field", "part"] sp') (hG : n = 1 → ∀ vs H Q E, spBits K a.C_ImageError 0 vs H Q E → sp' vs H Q E) :
    FnOk P w K mg base (L2.CX P w) (k + 1) a.f_bits_of a.d_bits_of ["field", "part"] (spBits K a.C_ImageError n) := by
  refine T.F__bits_of.okX sc_bits_of (fun vs H Q E h => ?_) (fun cdv A outer s H vs Q E hr h => ?_)
  · obtain ⟨_, _, _, _, rfl, _⟩ := h; rfl
  · obtain ⟨f, v, x, hf, rfl, hv, wt, hn, q⟩ := h
    refine ⟨_, (pss_cons (ps_if (pt_cmpR op_eq (pv 0) pe_str (nomark _)) (pss_cons (ps_asg (pv 1) (pg_tup rfl (pgs_cons (pg_name (i := 2) sc_bits_of.nd rfl (Or.inl rfl)) (pgs_cons (pg_name (i := 3) sc_bits_of.nd rfl (Or.inl rfl)) pgs_nil))))
      (pss_one (ps_ret (pe_call G_bits_of hr rfl T.g__bits_of T.k__bits_of T.bd__bits_of .nil (passes_call (takes_of rfl rfl rfl rfl) fun _ _ _ _ z => z) (pa_cons (pv 2) (pa_cons (pv 3) pa_nil)))))) pss_nil)
      (pss_cons (ps_asg (pe_ix ix_kdict (pe_glob (v := .ref a.c_FIELDS) rfl T.g_FIELDS rfl) (pv 0) (fun _ _ => rfl)) (pg_tup rfl (pgs_cons (pg_name (i := 4) sc_bits_of.nd rfl (Or.inl rfl)) (pgs_cons (pg_name (i := 5) sc_bits_of.nd rfl (Or.inl rfl)) (pgs_cons (pg_name (i := 6) sc_bits_of.nd rfl (Or.inl rfl)) (pgs_cons (pg_name (i := 7) sc_bits_of.nd rfl (Or.inl rfl)) pgs_nil))))))
      (pss_cons (ps_if (pt_not (pt_chain op_le op_le (pv 6) (pv 1) (pv 7))) (pss_one (ps_raise rfl (takes_of rfl rfl rfl rfl) (SkE.pmk_own1 PySem.F.excBase_ValueError T.x_ImageError T.g_ImageError T.kC_ImageError (raises_own T.s1_ImageError T.ty_ImageError) rfl (pe_joined (.cons pe_str (.cons (pe_fmt (pv 0)) .nil)))))) pss_nil)
      (pss_cons (ps_set (i := 8) sc_bits_of.nd rfl (Or.inl rfl) (pe_op op_shl (pe_op op_and (pv 1) (pe_op op_sub (pe_op op_shl pe_int (pv 5)) pe_int)) (pv 4)))
      (pss_one (ps_ret (pe_ifExp (pt_cmpR op_inS (pv 0) (pe_tup (pa_cons pe_str (pa_cons pe_str pa_nil))) rfl) (pe_op op_add (pv 8) (pe_glob (v := .int (32768)) rfl T.g_FLAG ⟨_, rfl⟩)) (pv 8)))))))), ?_⟩
    refine ⟨_, rfl, rfl, _, rfl, ?_⟩
    rw [fs_src ⟨f, hf⟩]
    refine ite3 (fun e => ?_) (fun e => ?_)
    · obtain rfl : f = 8 := of_decide_eq_true e
      have n1 : n = 1 := by omega
      cases hv with
      | n x => exact absurd wt (by show ¬ (8 : Nat) < 8; omega)
      | @s p b x h =>
        refine ⟨_, rfl, p, _, rfl, h, rfl, _, _, rfl, _, _, rfl, rfl, ?_⟩
        refine ⟨_, rfl, _, rfl, hG n1 _ _ _ _ ⟨kdS b, _, .n x, by unfold kdS; split <;> decide, rfl, .n x, by show kdS b < 8; unfold kdS; split <;> decide, .inl (by unfold kdS; split <;> decide), q⟩⟩
    have h8 : f < 8 := by have := of_decide_eq_false e; simp only at this; omega
    cases hv with
    | @s p b x h => exact absurd wt (by show ¬ f = 8; omega)
    | n x =>
      have q : ∀ H', Same H H' → (okF f x = true → Q (.int (bitF f x)) H') ∧ (okF f x = false → E (.ref a.C_ImageError) none H') := q
      obtain ⟨p, hk, hp⟩ := field_at T f h8
      obtain ⟨s0, s1, m0, m1⟩ := fsh_ok ⟨f, h8⟩
      have hfs : ∀ f : _root_.Fin 9, (Str.empty ++ Str.ofString "a number does not fit into the field ").length ≤ sizeLine ∧ (fS f.val).length ≤ sizeLine ∧ (Str.empty ++ Str.ofString "a number does not fit into the field " ++ fS f.val).length ≤ sizeLine := by decide +kernel
      refine ⟨_, rfl, _, _, _, rfl, rfl, hk, p, _, rfl, hp _, rfl, _, _, rfl, _, _, rfl, _, _, rfl, _, _, rfl, rfl, ?_⟩
      unfold okF at q
      have bad : ∀ (D : Ends) (σ : St), σ[0]? = some (some (V.str (fS f))) → (okF f x = false) → tJs [tC (.str (Str.ofString "a number does not fit into the field ")), tFmt (tVar 0)] Str.empty σ H (fun _ H' => E (.ref a.C_ImageError) none H') := fun D σ hσ hb =>
        ⟨_, rfl, (hfs ⟨f, hf⟩).1, _, hσ, .inl ⟨_, rfl, (hfs ⟨f, hf⟩).2.1, _, rfl, (hfs ⟨f, hf⟩).2.2, (q H (Same.refl H)).2 hb⟩⟩
      refine ⟨_, rfl, _, rfl, _, _, rfl, rfl, _, rfl, ite3 (fun e1 => ?_) (fun e1 => ?_)⟩
      · have e1' : decide (fLo f ≤ x) = true := e1
        refine ⟨_, rfl, _, _, rfl, rfl, _, rfl, ite3 (fun e2 => ?_) (fun e2 => ?_)⟩
        · have e2' : decide (x ≤ fHi f) = false := by simpa using e2
          exact bad { nx := fun _ _ => True, rt := fun _ _ => True } _ rfl (by unfold okF; rw [e1']; exact e2')
        · have e2' : decide (x ≤ fHi f) = true := by simpa using e2
          rw [e1'] at q
          refine ⟨_, rfl, _, rfl, _, _, rfl, rfl, ⟨m0, m1, by decide⟩, _, _, rfl, rfl, _, _, rfl, rfl, _, rfl, _, _, rfl, rfl, ⟨s0, s1, and_small f h8 x⟩, ?_⟩
          refine ⟨_, rfl, (by decide), fun t nt => ⟨_, _, rfl, .inr (SqT.of upd_same), rfl, rfl, _, rfl, ?_⟩⟩
          have q' := (q _ (sN (Same.refl H) nt (o := .tup [V.str "int", V.str "part"]))).1 e2'
          unfold bitF at q'
          rw [← bits_and f h8] at q'
          rw [fs_flag ⟨f, h8⟩]
          refine ite3 (fun e3 => ?_) (fun e3 => ?_)
          · rw [if_pos e3] at q'
            exact ⟨_, rfl, _, _, rfl, rfl, q'⟩
          · rw [if_neg (by rw [e3]; exact Bool.false_ne_true)] at q'
            exact ⟨_, rfl, q'⟩
      · have e1' : decide (fLo f ≤ x) = false := e1
        exact ⟨_, rfl, iteT (bad { nx := fun _ _ => True, rt := fun _ _ => True } _ rfl (by unfold okF; rw [e1']; rfl))⟩
theorem ok_bits_of (T : Txt w K mg a) : FnOk P w K mg base (L2.CX P w) 2 a.f_bits_of a.d_bits_of ["field", "part"] (spBits K a.C_ImageError 1) :=
  ok_bits_aux T 1 1 _ (ok_bits_aux T 0 0 spNever ⟨fun _ _ _ _ h => h.elim, fun _ _ _ _ _ _ _ _ _ _ _ _ _ h => h.elim⟩ fun h => nomatch h) fun _ vs H Q E h => h
theorem cut_tail {v : V} {ws : List V} : cutV (v :: ws) (some 1) none = ws := cut_lo _ 1
theorem ok_encode (T : Txt w K mg a) : FnOk P w K mg base (L2.CX P w) 3 a.f_encode a.d_encode ["instruction"] (spEnc K a.C_ImageError) := by
  have G_bits_of : FnOk P w K mg base (L2.CX P w) 2 _ _ _ _ := ok_bits_of T
  refine T.F_encode.okX sc_encode (fun vs H Q E h => ?_) (fun cdv A outer s H vs Q E hr h => ?_)
  · obtain ⟨_, _, _, _, _, rfl, _⟩ := h; rfl
  · obtain ⟨ip, k, ws, xs, hk, rfl, hI, hw, wt, q⟩ := h
    obtain ⟨fp, kf, hf⟩ := form_at T k hk
    have lx := wt.len
    have lw := hw.len
    refine ⟨_, (pss_cons (ps_set (i := 1) sc_encode.nd rfl (Or.inl rfl) (pe_ix ix_tup (pv 0) pe_int (fun _ _ => rfl)))
      (pss_cons (ps_set (i := 2) sc_encode.nd rfl (Or.inl rfl) (pe_op op_shl (pe_bm PySem.F.plainAttrs_tuple PySem.F.slot_tuple_index PySem.F.type_tuple_index mt_tup_index (pe_glob (v := .ref a.c_NAMES) rfl T.g_NAMES rfl) (pa_cons (pv 1) pa_nil)) (pe_glob (v := .int (26)) rfl T.g_NAME_SHIFT ⟨_, rfl⟩)))
      (pss_cons (ps_for (passes_of rfl) rfl (RZ.pi_zipA rfl T.b_zip (pa_cons (pe_ix ix_kdict (pe_glob (v := .ref a.c_FORMS) rfl T.g_FORMS rfl) (pv 1) (fun _ _ => rfl)) (pa_cons (pe_slice sl_tup (pv 0) (po_some pe_int) po_none) pa_nil))) (pg_tup rfl (pgs_cons (pg_name (i := 3) sc_encode.nd rfl (Or.inl rfl)) (pgs_cons (pg_name (i := 4) sc_encode.nd rfl (Or.inl rfl)) pgs_nil))) (pss_one (ps_aug (i := 2) sc_encode.nd rfl (Or.inl rfl) (pe_call G_bits_of (hr.mono (by decide)) rfl T.g__bits_of T.k__bits_of T.bd__bits_of .nil (passes_call (takes_of rfl rfl rfl rfl) fun _ _ _ _ z => z) (pa_cons (pv 3) (pa_cons (pv 4) pa_nil))) ip_add)))
      (pss_one (ps_ret (pv 2)))))), ?_⟩
    refine ⟨_, rfl, _, _, _, _, rfl, rfl, hI, at0, ?_⟩
    obtain ⟨on, hn1, hn2, hn3⟩ := T.y_NAMES
    refine ⟨.inr (.inl ⟨rfl, on, hn1, hn2, hn3⟩), _, rfl, _, nms, nmS k, k, rfl, rfl, T.q_NAMES _, (nm_first ⟨k, hk⟩).1, ?_, _, _, rfl, rfl, ⟨by decide, by decide, by omega⟩, ?_⟩
    · intro m hm
      exact (nm_first ⟨k, hk⟩).2 ⟨m, by omega⟩ hm
    refine ⟨_, rfl, _, _, _, rfl, rfl, kf, _, rfl, _, rfl, ip, _, rfl, hI, ?_, fun p np => ?_⟩
    · intro z
      have z1 := z.1
      rw [show (some (1 : Int)) = some ((1 : Nat) : Int) from rfl, HT.sIx_nat] at z1
      simp at z1
    rw [cut_tail]
    have s0 := sN (Same.refl H) np (o := .tup ws)
    have hp : upd H p (.tup ws) p = some (.tup ws) := upd_same
    generalize upd H p (.tup ws) = H1 at s0 hp ⊢
    have h0 : (k : Int) * 2 ^ (26 : Int).toNat = (k : Int) * 67108864 + sumB ((fm k).take 0) (xs.take 0) := by
      rw [List.take_zero, show sumB [] (List.take 0 xs) = 0 from rfl, Int.add_zero]
      rfl
    refine ⟨fp, p, _, _, rfl, .inr ⟨hf _, SqT.of hp, RZ.for_zipT (K := K) (a := fp) (b := p) (xs := (fm k).map fun f => V.str (fS f)) (ys := ws) (by rw [List.length_map]; omega)
      (fun i σ H' => Same H1 H' ∧ (∀ (j f : Nat) (x : Ar), j < i → (fm k)[j]? = some f → xs[j]? = some x → okA f x = true) ∧ ∃ x y, σ = [some (.ref ip), some (.str (nmS k)), some (.int ((k : Int) * 67108864 + sumB ((fm k).take i) (xs.take i))), x, y]) ?_ ?_ ?_ ?_⟩⟩
    · exact ⟨Same.refl _, fun j f x hj => absurd hj (Nat.not_lt_zero j), none, none, congrArg (fun z => [some (V.ref ip), some (V.str (nmS k)), some (V.int z), none, none]) h0⟩
    · rintro i σ H' ⟨ss, _, _, _, _⟩
      exact ⟨hf _, SqT.of (ss _ _ hp)⟩
    · rintro i x y T1 σ H' hx hy ⟨ss, hok, x0, y0, rfl⟩ nT
      obtain ⟨f, hfi, rfl⟩ : ∃ f, (fm k)[i]? = some f ∧ x = V.str (fS f) := by
        rw [List.getElem?_map] at hx
        cases e : (fm k)[i]? with
        | none => rw [e] at hx; cases hx
        | some c => rw [e] at hx; exact ⟨c, rfl, (Option.some.inj hx).symm⟩
      have st : Same H1 (upd H' T1 (.tup [V.str (fS f), y])) := sN ss nT
      obtain ⟨z, hz, hv⟩ := (hw.same (s0.trans st)).get hy
      refine ⟨T1, _, rfl, SqT.of upd_same, rfl, _, _, rfl, _, _, rfl, rfl, ?_⟩
      refine ⟨_, rfl, _, rfl, _, rfl, f, y, z, fm_lt ⟨k, hk⟩ f (List.mem_of_getElem? hfi), rfl, hv, wt.get hfi hz, .inr rfl, fun H2 s2 => ⟨fun ok => ?_, fun bad => ?_⟩⟩
      · refine ⟨_, _, rfl, rfl, st.trans s2, fun j g u hj e1 e2 => ?_, some (V.str (fS f)), some y, ?_⟩
        · by_cases c : j = i
          · subst c
            rw [hfi] at e1; rw [hz] at e2
            obtain rfl := Option.some.inj e1
            obtain rfl := Option.some.inj e2
            exact ok
          · exact hok j g u (by omega) e1 e2
        · have e : (k : Int) * 67108864 + sumB ((fm k).take i) (xs.take i) + bitA f z = (k : Int) * 67108864 + sumB ((fm k).take (i + 1)) (xs.take (i + 1)) := by
            rw [sum_take _ _ _ _ _ hfi hz, ← Int.add_assoc]
          exact congrArg (fun z => [some (V.ref ip), some (V.str (nmS k)), some (V.int z), some (V.str (fS f)), some y]) e
      · refine (q _ ((s0.trans st).trans s2)).2 ?_
        cases c : okS (fm k) xs with
        | false => rfl
        | true => rw [okS_at _ _ _ _ _ hfi hz c] at bad; exact nomatch bad
    · rintro σ H' ⟨ss, hok, x0, y0, rfl⟩
      rw [List.length_map] at hok ⊢
      rw [List.take_of_length_le (Nat.le_refl _), List.take_of_length_le (by omega)]
      refine ⟨_, rfl, (q _ (s0.trans ss)).1 (okS_all _ _ lx fun j f x e1 e2 => hok j f x (List.getElem?_eq_some_iff.mp e1).1 e1 e2)⟩
end

theorem DT.ts {K : PySem.W.Frag} {H : Hp} {v : V} {ds : List PyData} (h : DT K H v (.tuple ds)) : ∃ a xs, v = .ref a ∧ SqT K H a xs ∧ DTs K H xs ds := by
  cases h with
  | tup h r => exact ⟨_, _, rfl, h, r⟩

/-! ### sameness -/
def okD : Nat → PyData → Prop
  | _, .none => True
  | _, .bool _ => True
  | _, .int _ => True
  | _, .str _ => True
  | n + 1, .tuple ds => (∀ d ∈ ds, okD n d) ∧ ds.length ≤ 1000000
  | _, _ => False
def spSame (K : PySem.W.Frag) (n : Nat) : Sp := fun vs H Q _ => ∃ (x y : V) (d : PyData), vs = [x, y] ∧ DT K H x d ∧ DT K H y d ∧ okD n d ∧ ∀ H', Same H H' → Q (.bl true) H'
theorem kb (a b : String) (r : Bool) (h : kitB a b = some r := by decide +kernel) {K : PySem.W.Frag} : PySem.W.kitOne K (.type a) (.type b) = some r := kit_ty h
section
variable {P : Program} {w : World} {K : PySem.W.Frag} {mg : Str → Option Value} {base : Heap} {a : Ad}
theorem ok_same_aux (T : Txt w K mg a) (n k : Nat) (sp' : Sp) (G_law_same : FnOk P w K mg base CX0 k a.f_law_same a.d_law_same ["actual", "due"] sp') (hG : ∀ m, n = m + 1 → ∀ vs H Q E, spSame K m vs H Q E → sp' vs H Q E) :
    FnOk P w K mg base CX0 (k + 1) a.f_law_same a.d_law_same ["actual", "due"] (spSame K n) := by
  refine T.F__law_same.ok sc_law_same (fun vs H Q E h => ?_) (fun cdv A outer s H vs Q E hr h => ?_)
  · obtain ⟨_, _, _, rfl, _⟩ := h; rfl
  · obtain ⟨x, y, d, rfl, hx, hy, ho, q⟩ := h
    refine ⟨_, (pss_cons (ps_if (pt_val (pe_callB call_isi (by rfl) T.b_isinstance (by decide +kernel) (pa_cons (pv 1) (pa_cons (pe_bltn (v := .ty "tuple") (by rfl) T.b_tuple (by decide +kernel) rfl) pa_nil)))) (pss_cons (ps_if (PW.pt (pw_or (pt_not (pt_val (pe_callB call_isi (by rfl) T.b_isinstance (by decide +kernel) (pa_cons (pv 0) (pa_cons (pe_bltn (v := .ty "tuple") (by rfl) T.b_tuple (by decide +kernel) rfl) pa_nil))))) (pw_or1 (pt_cmpR op_ne (pe_callB call_len_seq (by rfl) T.b_len (by decide +kernel) (pa_cons (pv 0) pa_nil)) (pe_callB call_len_seq (by rfl) T.b_len (by decide +kernel) (pa_cons (pv 1) pa_nil)) (nomark _))))) (pss_one (ps_ret pe_bl)) pss_nil)
      (pss_one (ps_ret (pe_callB (cr_all rfl) (by rfl) T.b_all (by decide +kernel) (pa_cons (pe_lc (own := [("k", 2)]) (g := gName 2) rfl sc_law_same.nd (pi_range1 rfl T.b_range (pa_cons (pe_callB call_len_seq (by rfl) T.b_len (by decide +kernel) (pa_cons (pv 1) pa_nil)) pa_nil)) (blkOk_by (own := [("k", 2)]) (N := ["actual", "due", "k"]) (sc := defScope s_law_same) (by decide +kernel)) (fun _ _ _ _ _ => pg_name (i := 2) sc_law_same.nd rfl (Or.inl rfl)) (fun _ _ _ _ _ => pts_nil) (fun _ _ _ _ _ => (pe_call G_law_same hr rfl T.g__law_same T.k__law_same T.bd__law_same .nil pass0 (pa_cons (pe_ix (ix_tupK (K := K) rfl) (pv 0) (pv 2) (fun _ _ => rfl)) (pa_cons (pe_ix (ix_tupK (K := K) rfl) (pv 1) (pv 2) (fun _ _ => rfl)) pa_nil))))) pa_nil))))) pss_nil)
      (pss_cons (ps_if (pt_cmpR op_isN (pv 1) pe_non (nomark _)) (pss_one (ps_ret (pe_cmpR op_isN (pv 0) pe_non (nomark _)))) pss_nil)
      (pss_cons (ps_if (pt_val (pe_callB call_isi (by rfl) T.b_isinstance (by decide +kernel) (pa_cons (pv 1) (pa_cons (pe_bltn (v := .ty "bool") (by rfl) T.b_bool (by decide +kernel) rfl) pa_nil)))) (pss_one (ps_ret (pe_and (pe_callB call_isi (by rfl) T.b_isinstance (by decide +kernel) (pa_cons (pv 0) (pa_cons (pe_bltn (v := .ty "bool") (by rfl) T.b_bool (by decide +kernel) rfl) pa_nil))) (pe_one (pe_cmpR op_eq (pv 0) (pv 1) (nomark _)))))) pss_nil)
      (pss_cons (ps_if (pt_val (pe_callB call_isi (by rfl) T.b_isinstance (by decide +kernel) (pa_cons (pv 1) (pa_cons (pe_bltn (v := .ty "str") (by rfl) T.b_str (by decide +kernel) rfl) pa_nil)))) (pss_one (ps_ret (pe_and (pe_callB call_isi (by rfl) T.b_isinstance (by decide +kernel) (pa_cons (pv 0) (pa_cons (pe_bltn (v := .ty "str") (by rfl) T.b_str (by decide +kernel) rfl) pa_nil))) (pe_one (pe_cmpR op_eq (pv 0) (pv 1) (nomark _)))))) pss_nil)
      (pss_one (ps_ret (pe_and (pe_callB call_isi (by rfl) T.b_isinstance (by decide +kernel) (pa_cons (pv 0) (pa_cons (pe_bltn (v := .ty "int") (by rfl) T.b_int (by decide +kernel) rfl) pa_nil))) (pe_and (pe_not (pe_callB call_isi (by rfl) T.b_isinstance (by decide +kernel) (pa_cons (pv 0) (pa_cons (pe_bltn (v := .ty "bool") (by rfl) T.b_bool (by decide +kernel) rfl) pa_nil)))) (pe_one (pe_cmpR op_eq (pv 0) (pv 1) (nomark _))))))))))), ?_⟩
    have s0 := Same.refl H
    cases d with
    | none =>
      cases hx; cases hy
      refine ⟨_, rfl, _, _, _, _, _, rfl, .ty _, .base .non, kb "NoneType" "tuple" false, _, rfl, iteF ?_⟩
      refine ⟨_, rfl, rfl, _, rfl, iteT ?_⟩
      exact ⟨_, rfl, rfl, q _ s0⟩
    | bool i =>
      cases hx; cases hy
      refine ⟨_, rfl, _, _, _, _, _, rfl, .ty _, .base (.bl _), kb "bool" "tuple" false, _, rfl, iteF ?_⟩
      refine ⟨_, rfl, rfl, _, rfl, iteF ?_⟩
      refine ⟨_, rfl, _, _, _, _, _, rfl, .ty _, .base (.bl _), kb "bool" "bool" true, _, rfl, iteT ?_⟩
      refine ⟨_, rfl, _, _, _, _, _, rfl, .ty _, .base (.bl _), kb "bool" "bool" true, _, rfl, iteT ?_⟩
      refine ⟨_, rfl, _, rfl, rfl, ?_⟩
      rw [show decide (V.bl i = V.bl i) = true by simp]
      exact q _ s0
    | int i =>
      cases hx; cases hy
      refine ⟨_, rfl, _, _, _, _, _, rfl, .ty _, .base (.int _), kb "int" "tuple" false, _, rfl, iteF ?_⟩
      refine ⟨_, rfl, rfl, _, rfl, iteF ?_⟩
      refine ⟨_, rfl, _, _, _, _, _, rfl, .ty _, .base (.int _), kb "int" "bool" false, _, rfl, iteF ?_⟩
      refine ⟨_, rfl, _, _, _, _, _, rfl, .ty _, .base (.int _), kb "int" "str" false, _, rfl, iteF ?_⟩
      refine ⟨_, rfl, _, _, _, _, _, rfl, .ty _, .base (.int _), kb "int" "int" true, _, rfl, iteT ?_⟩
      refine ⟨_, rfl, _, _, _, _, _, rfl, .ty _, .base (.int _), kb "int" "bool" false, _, rfl, _, rfl, iteT ?_⟩
      refine ⟨_, rfl, _, rfl, rfl, ?_⟩
      rw [show decide (V.int i = V.int i) = true by simp]
      exact q _ s0
    | str z =>
      cases hx; cases hy
      refine ⟨_, rfl, _, _, _, _, _, rfl, .ty _, .base (.str _), kb "str" "tuple" false, _, rfl, iteF ?_⟩
      refine ⟨_, rfl, rfl, _, rfl, iteF ?_⟩
      refine ⟨_, rfl, _, _, _, _, _, rfl, .ty _, .base (.str _), kb "str" "bool" false, _, rfl, iteF ?_⟩
      refine ⟨_, rfl, _, _, _, _, _, rfl, .ty _, .base (.str _), kb "str" "str" true, _, rfl, iteT ?_⟩
      refine ⟨_, rfl, _, _, _, _, _, rfl, .ty _, .base (.str _), kb "str" "str" true, _, rfl, iteT ?_⟩
      refine ⟨_, rfl, _, rfl, rfl, ?_⟩
      rw [show decide (V.str z = V.str z) = true by simp]
      exact q _ s0
    | tuple ds =>
      cases n with
      | zero => exact ho.elim
      | succ m =>
        obtain ⟨ho, hz⟩ := ho
        obtain ⟨pa, xs, rfl, hxs, dx⟩ := hx.ts
        obtain ⟨pb, ys, rfl, hys, dy⟩ := hy.ts
        have lx := dx.len
        have ly := dy.len
        refine ⟨_, rfl, _, _, _, _, _, rfl, .ty _, tyx_tup hys, kb "tuple" "tuple" true, _, rfl, iteT ?_⟩
        refine ⟨_, rfl, _, _, _, _, _, rfl, .ty _, tyx_tup hxs, kb "tuple" "tuple" true, _, rfl, iteF ?_⟩
        refine ⟨_, rfl, _, _, rfl, .inr hxs, _, rfl, _, _, rfl, .inr hys, rfl, _, rfl, ?_⟩
        rw [show (!decide (V.int (xs.length : Int) = V.int (ys.length : Int))) = false by rw [lx, ly]; simp]
        refine iteF ?_
        refine ⟨_, rfl, _, _, rfl, .inr hys, _, rfl, by omega, by omega, fun D nD => ?_⟩
        refine lc_range (lo := 0) (n := (ys.length : Int).toNat) (fun i H' => Same H H' ∧ H' D = some (.lst ((List.replicate i true).map V.bl))) ⟨sN s0 nD, upd_same⟩ ?_ ?_
        · rintro i H' hi ⟨ss, hD⟩
          have hi' : i < ds.length := by omega
          obtain ⟨v1, e1, d1⟩ := dx.get (i := i) (d := ds[i]) (by simp [hi'])
          obtain ⟨v2, e2, d2⟩ := dy.get (i := i) (d := ds[i]) (by simp [hi'])
          have e0 : (0 : Int) + (i : Int) = (i : Int) := Int.zero_add _
          rw [e0]
          refine ⟨rfl, ?_⟩
          refine ⟨_, rfl, _, rfl, _, _, _, _, rfl, rfl, seqT ss hxs, atI_nat e1, _, rfl, _, rfl, _, _, _, _, rfl, rfl, seqT ss hys, atI_nat e2, ?_⟩
          refine hG m rfl _ _ _ _ ⟨v1, v2, ds[i], rfl, d1.keep (KT.same ss), d2.keep (KT.same ss), ho _ (List.getElem_mem hi'), fun H2 s2 => ?_⟩
          refine ⟨_, s2 _ _ hD, (by have := sizeLine_eq; simp; omega), sUpd (sTr ss s2) nD, ?_⟩
          rw [upd_same, List.replicate_succ', List.map_append]
          rfl
        · rintro H' ⟨ss, hD⟩
          refine ⟨D, List.replicate _ true, rfl, SqL.of hD, ?_⟩
          have e : (List.replicate (ys.length : Int).toNat true).all id = true := by simp
          rw [e]
          exact q _ ss
    | list ds => exact (by cases n <;> exact ho.elim)
    | _ => exact (by cases n <;> exact ho.elim)
theorem ok_same (T : Txt w K mg a) : ∀ n, FnOk P w K mg base CX0 (n + 1) a.f_law_same a.d_law_same ["actual", "due"] (spSame K n)
  | 0 => ok_same_aux T 0 0 spNever ⟨fun _ _ _ _ h => h.elim, fun _ _ _ _ _ _ _ _ _ _ _ _ _ h => h.elim⟩ fun _ h => nomatch h
  | n + 1 => ok_same_aux T (n + 1) (n + 1) (spSame K n) (ok_same T n) fun m h vs H Q E q => by
    obtain rfl : n = m := Nat.succ.inj h
    exact q
end

/-! ### the draws -/
structure StD (H : Hp) (st ca : Addr) (ns : List Int) : Prop where
  at' : ∃ i d n t b : Int, 0 ≤ i ∧ H st = some (.lst [.ref ca, .int i, .int d, .int n, .int t, .int b])
  ca' : H ca = some (.lst (ns.map V.int))
theorem StD.same {H H' : Hp} {st ca : Addr} {ns : List Int} (h : StD H st ca ns) (f : Same H H') : StD H' st ca ns := by
  obtain ⟨i, d, n, t, b, z, e⟩ := h.at'
  exact ⟨⟨i, d, n, t, b, z, f _ _ e⟩, f _ _ h.ca'⟩
theorem StD.new {H : Hp} {st ca p : Addr} {ns : List Int} {o : HO} (h : StD H st ca ns) (np : H p = none) : StD (upd H p o) st ca ns := h.same (sN (Same.refl H) np)
/-- all but the state stays -/
def Frs (st : Addr) (H H' : Hp) : Prop := ∀ b o, H b = some o → b ≠ st → H' b = some o
theorem Frs.refl {st : Addr} {H : Hp} : Frs st H H := fun _ _ e _ => e
theorem Frs.tr {st : Addr} {H H1 H2 : Hp} (x : Frs st H H1) (y : Frs st H1 H2) : Frs st H H2 := fun b o e n => y b o (x b o e n) n
theorem Frs.put {st : Addr} {H H1 : Hp} {o : HO} (x : Frs st H H1) : Frs st H (upd H1 st o) := fun b u e n => by rw [upd_ne n]; exact x b u e n
theorem Frs.of {st : Addr} {H H1 : Hp} (x : Same H H1) : Frs st H H1 := fun b u e _ => x b u e
theorem Frs.same {st : Addr} {H0 H H1 : Hp} (s : Same H0 H) (x : Frs st H H1) (n1 : H0 st = none) : Same H0 H1 := fun b o e => x b o (s b o e) (ne_of_none e n1)
def spMix : Sp := fun vs H Q _ => ∃ (n c : Int), vs = [.int n, .int c] ∧ ∀ v : Int, Q (.int v) H
def spState (K : PySem.W.Frag) : Sp := fun vs H Q _ => ∃ (sa : Addr) (ns : List Int) (b : Int), vs = [.ref sa, .int b] ∧ SqL K H sa (ns.map V.int) ∧ ns.length ≤ 63 ∧ ∀ (st ca : Addr) (H' : Hp) (t b : Int), H st = none → H ca = none → H' ca = some (.lst (ns.map V.int)) → H' st = some (.lst [.ref ca, .int 0, .int 0, .int 0, .int t, .int b]) → Same H H' → Q (.ref st) H'
def spDraw : Sp := fun vs H Q _ => ∃ (st ca : Addr) (ns : List Int) (m : Int), vs = [.ref st, .int m] ∧ StD H st ca ns ∧ 0 < m ∧ m < 2 ^ 62 ∧ ∀ (v : Int) (H' : Hp), 0 ≤ v → v < m → StD H' st ca ns → Frs st H H' → Q (.int v) H'
section
variable {P : Program} {w : World} {K : PySem.W.Frag} {mg : Str → Option Value} {base : Heap} {a : Ad}
theorem ok_law_mixed (T : Txt w K mg a) : FnOk P w K mg base CX0 1 a.f_law_mixed a.d_law_mixed ["number", "count"] spMix := by
  refine T.F__law_mixed.ok sc_law_mixed (fun vs H Q E h => ?_) (fun cdv A outer s H vs Q E hr h => ?_)
  · obtain ⟨_, _, rfl, _⟩ := h; rfl
  · obtain ⟨n, c, rfl, q⟩ := h
    refine ⟨_, (pss_cons (ps_set (i := 2) sc_law_mixed.nd rfl (Or.inl rfl) (pe_op op_mod (pe_callTy call_int1 (by rfl) T.b_int (by decide +kernel) (pa_cons (pe_op op_add (pe_op op_add (pe_op op_mul (pv 0) pe_int) (pe_op op_mul (pv 1) pe_int)) pe_int) pa_nil)) pe_int))
      (pss_cons (ps_set (i := 3) sc_law_mixed.nd rfl (Or.inl rfl) (pe_op op_mod (pe_callTy call_int1 (by rfl) T.b_int (by decide +kernel) (pa_cons (pe_op op_add (pe_op op_add (pe_op op_mul (pv 2) (pv 2)) (pv 0)) (pe_op op_mul (pv 1) pe_int)) pa_nil)) pe_int))
      (pss_one (ps_ret (pe_op op_add (pv 3) (pe_op op_fdivW (pv 2) pe_int)))))), ?_⟩
    have hdv : ∀ i, CDivW i 64 := fun i => wide_div (b := 62) (by decide) (by decide) (by decide) (by decide)
    refine ⟨_, rfl, _, _, rfl, rfl, .inr (by decide), _, rfl, _, _, rfl, rfl, .inr (by decide), _, _, rfl, rfl, _, _, rfl, rfl, .inl ⟨_, rfl, _, _, rfl, rfl, (by show (0 : Int) < 2147483647; decide), ?_⟩⟩
    have h0 := Int.emod_nonneg (n * 48271 + c * 69621 + 7) (b := 2147483647) (by decide)
    have h1 := Int.emod_lt_of_pos (n * 48271 + c * 69621 + 7) (b := 2147483647) (by decide)
    refine ⟨_, rfl, _, rfl, _, _, rfl, rfl, .inr ⟨by omega, by omega⟩, _, rfl, _, _, rfl, rfl, _, rfl, _, _, rfl, rfl, .inr (by decide), _, _, rfl, rfl, .inl ⟨_, rfl, _, _, rfl, rfl, (by show (0 : Int) < 2147483399; decide), ?_⟩⟩
    exact ⟨_, rfl, _, rfl, _, _, rfl, rfl, hdv _, _, _, rfl, rfl, q _⟩
theorem ok_law_state (T : Txt w K mg a) : FnOk P w K mg base CX0 1 a.f_law_state a.d_law_state ["script", "budget"] (spState K) := by
  refine T.F__law_state.ok sc_law_state (fun vs H Q E h => ?_) (fun cdv A outer s H vs Q E hr h => ?_)
  · obtain ⟨_, _, _, rfl, _⟩ := h; rfl
  · obtain ⟨sa, ns, b, rfl, hs, hl, q⟩ := h
    refine ⟨_, (pss_one (ps_ret (pe_lst (pa_cons (pe_callTy call_list_of (by rfl) T.b_list (by decide +kernel) (pa_cons (pv 0) pa_nil)) (pa_cons pe_int (pa_cons pe_int (pa_cons pe_int (pa_cons (pe_op op_add (pe_op op_mod (pe_callTy call_int1 (by rfl) T.b_int (by decide +kernel) (pa_cons (pe_callB (cr_sum rfl) (by rfl) T.b_sum (by decide +kernel) (pa_cons (pv 0) pa_nil)) pa_nil)) (pe_op op_pow pe_int pe_int)) (pe_callB call_len_seq (by rfl) T.b_len (by decide +kernel) (pa_cons (pv 0) pa_nil))) (pa_cons (pv 1) pa_nil))))))))), ?_⟩
    refine ⟨_, rfl, sa, _, rfl, .inl hs, fun ca nca => ?_⟩
    have s1 := sN (Same.refl H) nca (o := .lst (ns.map V.int))
    refine ⟨_, rfl, sa, ns, rfl, Same.seq s1 hs, .inl ⟨_, rfl, _, _, rfl, rfl, ⟨by decide, by decide, by decide⟩, _, _, rfl, rfl, (by show (0 : Int) < 10 ^ 15; decide), _, rfl, _, _, rfl, .inl (Same.seq s1 hs), _, _, rfl, rfl, _, rfl, (by show 6 ≤ sizeLine; decide), fun st nst => ?_⟩⟩
    have ncs : ca ≠ st := ne_of_none upd_same nst
    have ns0 : H st = none := by rw [upd_ne ncs.symm] at nst; exact nst
    exact q st ca _ _ _ ns0 nca (by rw [upd_ne ncs]; exact upd_same) upd_same (sN s1 nst)
theorem ok_law_draw (T : Txt w K mg a) : FnOk P w K mg base CX0 3 a.f_law_draw a.d_law_draw ["state", "many"] spDraw := by
  have G_law_mixed : FnOk P w K mg base CX0 1 _ _ _ _ := ok_law_mixed T
  refine T.F__law_draw.ok sc_law_draw (fun vs H Q E h => ?_) (fun cdv A outer s H vs Q E hr h => ?_)
  · obtain ⟨_, _, _, _, rfl, _⟩ := h; rfl
  · obtain ⟨st, ca, ns, m, rfl, S, hm, hm2, q⟩ := h
    have hdv : ∀ i, CDivW i m := fun i => wide_div (b := 62) hm (by omega) (by decide) (by decide)
    obtain ⟨i, d, n, t, b, i0, h1⟩ := S.at'
    have h2 := S.ca'
    have nsc : st ≠ ca := ne_of h1 h2 fun e => by
      injection e with e
      cases ns with
      | nil => exact nomatch e
      | cons x r => injection e with e _; exact nomatch e
    refine ⟨_, (pss_cons (ps_set (i := 2) sc_law_draw.nd rfl (Or.inl rfl) (pe_ix ix_list (pv 0) pe_int (fun _ _ => rfl)))
      (pss_cons (ps_asg (pe_op op_add (pe_ix ix_list (pv 0) pe_int (fun _ _ => rfl)) pe_int) (pg_sub (pv 0) pe_int set_list))
      (C8.pss_cut (ps_if (PW.pt (pw_and (pt_cmpR op_eq (pe_ix ix_list (pv 0) pe_int (fun _ _ => rfl)) pe_int (nomark _)) (pw_and1 (pt_cmpR op_lt (pe_ix ix_list (pv 0) pe_int (fun _ _ => rfl)) (pe_callB call_len_seq (by rfl) T.b_len (by decide +kernel) (pa_cons (pv 2) pa_nil)) (nomark _))))) (pss_cons (ps_asg (pe_op op_add (pe_ix ix_list (pv 0) pe_int (fun _ _ => rfl)) pe_int) (pg_sub (pv 0) pe_int set_list))
      (pss_cons (ps_set (i := 3) sc_law_draw.nd rfl (Or.inl rfl) (pe_callB call_abs (by rfl) T.b_abs (by decide +kernel) (pa_cons (pe_ix ix_list (pv 2) (pe_op op_sub (pe_ix ix_list (pv 0) pe_int (fun _ _ => rfl)) pe_int) (fun _ _ => rfl)) pa_nil)))
      (pss_cons (ps_if (pt_cmpR op_lt (pv 3) (pe_op op_pow pe_int pe_int) (nomark _)) (pss_one (ps_ret (pe_op op_mod (pe_callTy call_int1 (by rfl) T.b_int (by decide +kernel) (pa_cons (pe_call G_law_mixed (hr.mono (by decide)) rfl T.g__law_mixed T.k__law_mixed T.bd__law_mixed .nil pass0 (pa_cons (pv 3) (pa_cons (pe_ix ix_list (pv 0) pe_int (fun _ _ => rfl)) pa_nil))) pa_nil)) (pv 1)))) pss_nil)
      (pss_one (ps_asg (pv 3) (pg_sub (pv 0) pe_int set_list)))))) pss_nil)
      (pss_cons (ps_if (pt_cmpR op_eq (pe_ix ix_list (pv 0) pe_int (fun _ _ => rfl)) pe_int (nomark _)) (pss_one (ps_ret (pe_op op_mod (pe_callTy call_int1 (by rfl) T.b_int (by decide +kernel) (pa_cons (pe_call G_law_mixed (hr.mono (by decide)) rfl T.g__law_mixed T.k__law_mixed T.bd__law_mixed .nil pass0 (pa_cons (pe_ix ix_list (pv 0) pe_int (fun _ _ => rfl)) (pa_cons (pe_ix ix_list (pv 0) pe_int (fun _ _ => rfl)) pa_nil))) pa_nil)) (pv 1)))) pss_nil)
      (pss_cons (ps_set (i := 4) sc_law_draw.nd rfl (Or.inl rfl) (pe_op op_mod (pe_callTy call_int1 (by rfl) T.b_int (by decide +kernel) (pa_cons (pe_ix ix_list (pv 0) pe_int (fun _ _ => rfl)) pa_nil)) (pv 1)))
      (pss_cons (ps_asg (pe_op op_fdivW (pe_callTy call_int1 (by rfl) T.b_int (by decide +kernel) (pa_cons (pe_ix ix_list (pv 0) pe_int (fun _ _ => rfl)) pa_nil)) (pv 1)) (pg_sub (pv 0) pe_int set_list))
      (pss_one (ps_ret (pv 4))))))))), ?_⟩
    refine ⟨_, rfl, _, _, _, _, rfl, rfl, SqL.of h1, rfl, ?_⟩
    refine ⟨_, rfl, _, _, _, _, rfl, rfl, SqL.of h1, rfl, _, _, rfl, rfl, _, rfl, _, _, _, _, rfl, rfl, h1, rfl, ?_⟩
    have k2 : ∀ {H2 : Hp} {o : HO}, H2 ca = some (.lst (ns.map V.int)) → upd H2 st o ca = some (.lst (ns.map V.int)) := fun e => by rw [upd_ne nsc.symm]; exact e
    refine ⟨fun σ H2 => ∃ (i d n t b : Int) (o : Option V), 0 ≤ i ∧ σ = [some (.ref st), some (.int m), some (.ref ca), o, none] ∧ H2 st = some (.lst [.ref ca, .int i, .int d, .int n, .int t, .int b]) ∧ H2 ca = some (.lst (ns.map V.int)) ∧ Frs st H H2, ?_, ?_⟩
    · have e1 : upd H st (.lst [.ref ca, .int i, .int d, .int (n + 1), .int t, .int b]) st = some (.lst [.ref ca, .int i, .int d, .int (n + 1), .int t, .int b]) := upd_same
      have e2 := k2 (o := .lst [.ref ca, .int i, .int d, .int (n + 1), .int t, .int b]) h2
      refine ⟨_, rfl, _, _, _, _, rfl, rfl, SqL.of e1, rfl, rfl, _, rfl, ite3 (fun c1 => ?_) (fun c1 => ?_)⟩
      · refine ⟨_, rfl, _, _, _, _, rfl, rfl, SqL.of e1, rfl, _, rfl, _, _, rfl, .inl (SqL.of e2), _, _, rfl, rfl, _, rfl, ite3 (fun c2 => ?_) (fun c2 => ?_)⟩
        · have hlt : i.toNat < ns.length := by
            have := of_decide_eq_true c2
            simp at this
            omega
          have hat : atI (ns.map V.int) (i + 1 - 1) = some (.int ns[i.toNat]) := by
            have hh := atI_nat (j := i.toNat) (xs := ns.map V.int) (v := V.int ns[i.toNat]) (by simp [hlt])
            rwa [show ((i.toNat : Nat) : Int) = i + 1 - 1 by omega] at hh
          refine ⟨_, rfl, _, _, _, _, rfl, rfl, SqL.of e1, rfl, _, _, rfl, rfl, _, rfl, _, _, _, _, rfl, rfl, e1, rfl, ?_⟩
          have e3 := k2 (o := .lst [.ref ca, .int (i + 1), .int d, .int (n + 1), .int t, .int b]) e2
          refine ⟨_, rfl, _, rfl, _, _, _, _, rfl, rfl, SqL.of upd_same, rfl, _, _, rfl, rfl, _, _, _, _, rfl, rfl, SqL.of e3, hat, _, rfl, ?_⟩
          refine ⟨_, rfl, _, _, rfl, rfl, ⟨by decide, by decide, by decide⟩, _, _, rfl, rfl, _, rfl, ite3 (fun c3 => ?_) (fun c3 => ?_)⟩
          · refine ⟨_, rfl, _, rfl, _, _, _, _, rfl, rfl, SqL.of upd_same, rfl, _, _, rfl, fun v => .inl ⟨_, rfl, _, rfl, _, _, rfl, rfl, hm, ?_⟩⟩
            exact q _ _ (Int.emod_nonneg _ (by omega)) (Int.emod_lt_of_pos _ hm) ⟨⟨_, _, _, _, _, by omega, upd_same⟩, e3⟩ Frs.refl.put.put
          · refine ⟨_, rfl, _, rfl, _, _, _, _, rfl, rfl, upd_same, rfl, ?_⟩
            exact ⟨i + 1, _, _, _, _, _, by omega, rfl, upd_same, k2 e3, Frs.refl.put.put.put⟩
        · exact ⟨_, _, _, _, _, _, i0, rfl, upd_same, e2, Frs.refl.put⟩
      · exact iteF ⟨_, _, _, _, _, _, i0, rfl, upd_same, e2, Frs.refl.put⟩
    · clear h1 h2 i0
      rintro σ H2 ⟨i, d, n, t, b, o, i0, rfl, h1, h2, f⟩
      refine ⟨_, rfl, _, _, _, _, rfl, rfl, SqL.of h1, rfl, rfl, _, rfl, ite3 (fun c1 => ?_) (fun c1 => ?_)⟩
      · refine ⟨_, rfl, _, _, _, _, rfl, rfl, SqL.of h1, rfl, _, rfl, _, _, _, _, rfl, rfl, SqL.of h1, rfl, _, _, rfl, fun v => .inl ⟨_, rfl, _, rfl, _, _, rfl, rfl, hm, ?_⟩⟩
        exact q _ _ (Int.emod_nonneg _ (by omega)) (Int.emod_lt_of_pos _ hm) ⟨⟨_, _, _, _, _, i0, h1⟩, h2⟩ f
      · refine ⟨_, rfl, _, _, _, _, rfl, rfl, SqL.of h1, rfl, .inl ⟨_, rfl, _, rfl, _, _, rfl, rfl, hm, ?_⟩⟩
        refine ⟨_, rfl, _, _, _, _, rfl, rfl, SqL.of h1, rfl, .inl ⟨_, rfl, _, rfl, _, _, rfl, rfl, hdv _, _, rfl, _, _, _, _, rfl, rfl, h1, rfl, ?_⟩⟩
        exact ⟨_, rfl, q _ _ (Int.emod_nonneg _ (by omega)) (Int.emod_lt_of_pos _ hm) ⟨⟨_, _, _, _, _, i0, upd_same⟩, k2 h2⟩ f.put⟩
end
section
variable {K : PySem.W.Frag} {H H' : Hp}
theorem StD.ne {st ca p : Addr} {ns : List Int} (S : StD H st ca ns) (n : H p = none) : p ≠ st := fun e => by
  obtain ⟨_, _, _, _, _, _, e1⟩ := S.at'
  rw [e, e1] at n; cases n
theorem StD.neC {st ca p : Addr} {ns : List Int} (S : StD H st ca ns) (n : H p = none) : p ≠ ca := fun e => by
  rw [e, S.ca'] at n; cases n
theorem StD.upd {st ca p : Addr} {ns : List Int} {o : HO} (S : StD H st ca ns) (n1 : p ≠ st) (n2 : p ≠ ca) : StD (L2.upd H p o) st ca ns := by
  obtain ⟨i, d, n, t, b, z, e⟩ := S.at'
  exact ⟨⟨i, d, n, t, b, z, by rw [upd_ne n1.symm]; exact e⟩, by rw [upd_ne n2.symm]; exact S.ca'⟩
theorem StD.kt {st ca : Addr} {ns : List Int} (S : StD H st ca ns) (f : Frs st H H') : KT K H H' := fun b ys h => by
  obtain ⟨_, _, _, _, _, _, e⟩ := S.at'
  rcases h with (h | ⟨u, h⟩) | h
  · exact .inl (.inl (f _ _ h (ne_of h e fun z => nomatch z)))
  · exact .inl (.inr ⟨u, f _ _ h (ne_of h e fun z => nomatch z)⟩)
  · exact .inr h
theorem Frs.new {st p : Addr} {H0 : Hp} {o : HO} (f : Frs st H0 H) (n : H p = none) : Frs st H0 (L2.upd H p o) := fun b u e m => by
  rw [upd_ne (ne_of_none (f b u e m) n)]; exact f b u e m
/-- a list that is new since H0 is written -/
theorem Frs.upN {st p : Addr} {H0 : Hp} {o : HO} (f : Frs st H0 H) (n : H0 p = none) : Frs st H0 (L2.upd H p o) := fun b u e m => by
  rw [upd_ne (ne_of_none e n)]; exact f b u e m
end

def shW (x : Int) : Bool := cond (decide (-16384 ≤ x)) (decide (x ≤ 16383)) false
def wd (x : Int) : Prop := -2147483648 ≤ x ∧ x ≤ 2147483647
def spShort : Sp := fun vs H Q _ => ∃ x : Int, vs = [.int x] ∧ Q (.bl (shW x)) H
def spConst (K : PySem.W.Frag) : Sp := fun vs H Q _ => ∃ (t x : Int), vs = [.int t, .int x] ∧
  (shW x = true → ∀ p q l H', Same H H' → H' p = some (.tup [.str "int", .int x]) → H' q = some (.tup [.str "add", .int t, .int 0, .ref p]) → H' l = some (.lst [.ref q]) → Q (.ref l) H') ∧
  (shW x = false → ∀ p q l H', Same H H' → H' p = some (.tup [.str "high", .int t, .int (x / 2048)]) → H' q = some (.tup [.str "low", .int t, .int t, .int (x % 2048)]) → H' l = some (.lst [.ref p, .ref q]) → Q (.ref l) H')
def spWordD : Sp := fun vs H Q _ => ∃ (st ca : Addr) (ns : List Int), vs = [.ref st] ∧ StD H st ca ns ∧ ∀ (v : Int) (H' : Hp), wd v → StD H' st ca ns → Frs st H H' → Q (.int v) H'
/-- what an instruction does to the registers -/
def insS (K : PySem.W.Frag) (H : Hp) (ip : Addr) (t : Nat) (rs rs' : List Int) : Prop :=
  (∃ p x, SqT K H ip [.str "add", .int t, .int 0, .ref p] ∧ SqT K H p [.str "int", .int x] ∧ rs' = rs.set t x) ∨
  (∃ n, SqT K H ip [.str "high", .int t, .int n] ∧ rs' = rs.set t (n * 2048)) ∨
  (∃ m, SqT K H ip [.str "low", .int t, .int t, .int m] ∧ rs' = rs.set t (rs.getD t 0 - rs.getD t 0 % 2048 + m))
def spDone (K : PySem.W.Frag) : Sp := fun vs H Q _ => ∃ (rg ip : Addr) (t : Nat) (rs rs' : List Int), vs = [.ref rg, .ref ip] ∧ H rg = some (.lst (rs.map V.int)) ∧ rs.length = 33 ∧ rs.getD 32 0 = (t : Int) ∧ t < 32 ∧ insS K H ip t rs rs' ∧
  ∀ H', H' rg = some (.lst (rs'.map V.int)) → (∀ b o, H b = some o → b ≠ rg → H' b = some o) → Q (.bl true) H'
theorem c2 (v : Int) (h0 : 0 ≤ v) (h1 : v < 2) (x y : Int) : ∃ z, atI [V.int x, V.int y] v = some (.int z) ∧ (z = x ∨ z = y) := by
  obtain rfl | rfl : v = 0 ∨ v = 1 := by omega
  · exact ⟨x, at0, .inl rfl⟩
  · exact ⟨y, atI_nat (j := 1) rfl, .inr rfl⟩
theorem strF {x y : Str} (h : decide (V.str x = V.str y) = false := by decide +kernel) : decide (V.str x = V.str y) = false := h
theorem strT {x y : Str} (h : decide (V.str x = V.str y) = true := by decide +kernel) : decide (V.str x = V.str y) = true := h
theorem frs_p {st p : Addr} {H H' : Hp} {o : HO} (f : Frs st H H') (e : H p = some o) (n : p ≠ st) : H' p = some o := f p o e n
section
variable {P : Program} {w : World} {K : PySem.W.Frag} {mg : Str → Option Value} {base : Heap} {a : Ad}
theorem ok_is_short (T : Txt w K mg a) : FnOk P w K mg base CX0 1 a.f_is_short a.d_is_short ["word"] spShort := by
  refine T.F_is_short.ok sc_is_short (fun vs H Q E h => ?_) (fun cdv A outer s H vs Q E hr h => ?_)
  · obtain ⟨_, rfl, _⟩ := h; rfl
  · obtain ⟨x, rfl, q⟩ := h
    refine ⟨_, (pss_cons (ps_asg (pe_ix ix_kdict (pe_glob (v := .ref a.c_FIELDS) rfl T.g_FIELDS rfl) pe_str (fun _ _ => rfl)) (pg_tup rfl (pgs_cons (pg_name (i := 1) sc_is_short.nd rfl (Or.inl rfl)) (pgs_cons (pg_name (i := 1) sc_is_short.nd rfl (Or.inl rfl)) (pgs_cons (pg_name (i := 2) sc_is_short.nd rfl (Or.inl rfl)) (pgs_cons (pg_name (i := 3) sc_is_short.nd rfl (Or.inl rfl)) pgs_nil))))))
      (pss_one (ps_ret (pe_chain op_le op_le (pv 2) (pv 0) (pv 3))))), ?_⟩
    unfold shW at q
    refine ⟨_, _, _, rfl, rfl, T.kd_FIELDS_int, _, _, rfl, T.q_FIELDS_int _, rfl, _, _, rfl, _, _, rfl, _, _, rfl, _, _, rfl, rfl, ?_⟩
    refine ⟨_, rfl, _, rfl, _, _, rfl, rfl, _, rfl, ite3 (fun e => ?_) (fun e => ?_)⟩
    · have e' : decide (-16384 ≤ x) = true := e
      rw [e'] at q
      exact ⟨_, rfl, _, _, rfl, rfl, q⟩
    · have e' : decide (-16384 ≤ x) = false := e
      rw [e'] at q
      exact q
theorem ok_constant (T : Txt w K mg a) : FnOk P w K mg base CX0 2 a.f_constant a.d_constant ["target", "word"] (spConst K) := by
  have G_is_short : FnOk P w K mg base CX0 1 _ _ _ _ := ok_is_short T
  refine T.F_constant.ok sc_constant (fun vs H Q E h => ?_) (fun cdv A outer s H vs Q E hr h => ?_)
  · obtain ⟨_, _, rfl, _⟩ := h; rfl
  · obtain ⟨t, x, rfl, q1, q2⟩ := h
    refine ⟨_, (pss_cons (ps_if (pt_val (pe_call G_is_short (hr.mono (by decide)) rfl T.g_is_short T.k_is_short T.bd_is_short .nil pass0 (pa_cons (pv 1) pa_nil))) (pss_one (ps_ret (pe_lst (pa_cons (pe_tup (pa_cons pe_str (pa_cons (pv 0) (pa_cons pe_int (pa_cons (pe_tup (pa_cons pe_str (pa_cons (pv 1) pa_nil))) pa_nil))))) pa_nil)))) pss_nil)
      (pss_one (ps_ret (pe_lst (pa_cons (pe_tup (pa_cons pe_str (pa_cons (pv 0) (pa_cons (pe_op op_fdivW (pv 1) (pe_glob (v := .int (2048)) rfl T.g_PART ⟨_, rfl⟩)) pa_nil)))) (pa_cons (pe_tup (pa_cons pe_str (pa_cons (pv 0) (pa_cons (pv 0) (pa_cons (pe_op op_mod (pv 1) (pe_glob (v := .int (2048)) rfl T.g_PART ⟨_, rfl⟩)) pa_nil))))) pa_nil)))))), ?_⟩
    refine ⟨_, rfl, x, rfl, _, rfl, ite3 (fun e => ?_) (fun e => ?_)⟩
    · refine ⟨_, rfl, _, rfl, (by show 2 ≤ sizeLine; decide), fun p np => ⟨(by show 4 ≤ sizeLine; decide), fun r nr => ⟨(by show 1 ≤ sizeLine; decide), fun l nl => ?_⟩⟩⟩
      have hp := sN (sN (Same.refl _) nr (o := .tup [V.str "add", V.int t, V.int 0, V.ref p])) nl (o := .lst [V.ref r]) p (.tup [V.str "int", V.int x]) upd_same
      have hq := sN (Same.refl _) nl (o := .lst [V.ref r]) r (.tup [V.str "add", V.int t, V.int 0, V.ref p]) upd_same
      exact q1 e p r l _ (sN (sN (sN (Same.refl H) np) nr) nl) hp hq upd_same
    · have hdv : CDivW x 2048 := wide_div (b := 62) (by decide) (by decide) (by decide) (by decide)
      refine ⟨_, rfl, _, rfl, _, _, rfl, rfl, hdv, (by show 3 ≤ sizeLine; decide), fun p np => ⟨_, rfl, _, rfl, _, rfl, _, _, rfl, rfl, (by show (0 : Int) < 2048; decide), (by show 4 ≤ sizeLine; decide), fun r nr => ⟨(by show 2 ≤ sizeLine; decide), fun l nl => ?_⟩⟩⟩
      have hp := sN (sN (Same.refl _) nr (o := .tup [V.str "low", V.int t, V.int t, V.int (x % 2048)])) nl (o := .lst [V.ref p, V.ref r]) p (.tup [V.str "high", V.int t, V.int (x / 2048)]) upd_same
      have hq := sN (Same.refl _) nl (o := .lst [V.ref p, V.ref r]) r (.tup [V.str "low", V.int t, V.int t, V.int (x % 2048)]) upd_same
      exact q2 e p r l _ (sN (sN (sN (Same.refl H) np) nr) nl) hp hq upd_same
theorem ok_law_word (T : Txt w K mg a) : FnOk P w K mg base CX0 4 a.f_law_word a.d_law_word ["state"] spWordD := by
  have G_law_draw : FnOk P w K mg base CX0 3 _ _ _ _ := ok_law_draw T
  refine T.F__law_word.ok sc_law_word (fun vs H Q E h => ?_) (fun cdv A outer s H vs Q E hr h => ?_)
  · obtain ⟨_, _, _, rfl, _⟩ := h; rfl
  · obtain ⟨st, ca, ns, rfl, S, q⟩ := h
    refine ⟨_, (pss_cons (ps_set (i := 1) sc_law_word.nd rfl (Or.inl rfl) (pe_call G_law_draw (hr.mono (by decide)) rfl T.g__law_draw T.k__law_draw T.bd__law_draw .nil pass0 (pa_cons (pv 0) (pa_cons pe_int pa_nil))))
      (pss_cons (ps_set (i := 2) sc_law_word.nd rfl (Or.inl rfl) (pe_op op_sub (pe_call G_law_draw (hr.mono (by decide)) rfl T.g__law_draw T.k__law_draw T.bd__law_draw .nil pass0 (pa_cons (pv 0) (pa_cons pe_int pa_nil))) pe_int))
      (pss_cons (ps_if (pt_cmpR op_eq (pv 1) pe_int (nomark _)) (pss_one (ps_ret (pv 2))) pss_nil)
      (pss_cons (ps_if (pt_cmpR op_eq (pv 1) pe_int (nomark _)) (pss_one (ps_ret (pe_op op_add (pe_ix ix_list (pe_lst (pa_cons (pe_un un_neg pe_int) (pa_cons pe_int pa_nil))) (pe_call G_law_draw (hr.mono (by decide)) rfl T.g__law_draw T.k__law_draw T.bd__law_draw .nil pass0 (pa_cons (pv 0) (pa_cons pe_int pa_nil))) (fun _ _ => rfl)) (pv 2)))) pss_nil)
      (pss_cons (ps_if (pt_cmpR op_eq (pv 1) pe_int (nomark _)) (pss_one (ps_ret (pe_callB (cr_max rfl) (by rfl) T.b_max (by decide +kernel) (pa_cons (pe_lst (pa_cons (pe_un un_neg pe_int) (pa_cons (pe_callB (cr_min rfl) (by rfl) T.b_min (by decide +kernel) (pa_cons (pe_lst (pa_cons pe_int (pa_cons (pe_op op_add (pe_op op_mul pe_int (pe_op op_sub (pe_call G_law_draw (hr.mono (by decide)) rfl T.g__law_draw T.k__law_draw T.bd__law_draw .nil pass0 (pa_cons (pv 0) (pa_cons pe_int pa_nil))) pe_int)) (pv 2)) pa_nil))) pa_nil)) pa_nil))) pa_nil)))) pss_nil)
      (pss_cons (ps_if (pt_cmpR op_eq (pv 1) pe_int (nomark _)) (pss_one (ps_ret (pe_ix ix_list (pe_lst (pa_cons (pe_un un_neg pe_int) (pa_cons pe_int pa_nil))) (pe_call G_law_draw (hr.mono (by decide)) rfl T.g__law_draw T.k__law_draw T.bd__law_draw .nil pass0 (pa_cons (pv 0) (pa_cons pe_int pa_nil))) (fun _ _ => rfl)))) pss_nil)
      (pss_one (ps_ret (pe_op op_sub (pe_call G_law_draw (hr.mono (by decide)) rfl T.g__law_draw T.k__law_draw T.bd__law_draw .nil pass0 (pa_cons (pv 0) (pa_cons pe_int pa_nil))) pe_int))))))))), ?_⟩
    refine ⟨_, rfl, st, ca, ns, 6, rfl, S, by decide, by decide, fun c H1 c0 c1 S1 F1 => ?_⟩
    refine ⟨_, rfl, st, ca, ns, 7, rfl, S1, by decide, by decide, fun z H2 z0 z1 S2 F2 => ⟨_, _, rfl, rfl, ?_⟩⟩
    have F2 := F1.tr F2
    clear S1 F1
    refine ⟨_, rfl, rfl, _, rfl, ite3 (fun e => ?_) (fun e => ?_)⟩
    · exact ⟨_, rfl, q _ _ ⟨by omega, by omega⟩ S2 F2⟩
    refine ⟨_, rfl, rfl, _, rfl, ite3 (fun e => ?_) (fun e => ?_)⟩
    · refine ⟨_, rfl, (by show 2 ≤ sizeLine; decide), fun p np => ⟨_, rfl, st, ca, ns, 2, rfl, S2.new np, by decide, by decide, fun v H3 v0 v1 S3 F3 => ?_⟩⟩
      obtain ⟨y, hy, hy2⟩ := c2 v v0 v1 (-16384) 16383
      have hp := frs_p F3 upd_same (S2.ne np)
      exact ⟨_, _, _, _, rfl, rfl, SqL.of hp, hy, _, rfl, _, _, rfl, rfl, q _ _ ⟨by omega, by omega⟩ S3 ((F2.new np).tr F3)⟩
    refine ⟨_, rfl, rfl, _, rfl, ite3 (fun e => ?_) (fun e => ?_)⟩
    · refine ⟨_, rfl, _, rfl, st, ca, ns, 2097152, rfl, S2, by decide, by decide, fun v H3 v0 v1 S3 F3 => ⟨_, _, rfl, rfl, _, _, rfl, rfl, .inl ⟨by decide, by decide⟩, _, rfl, _, _, rfl, rfl, (by show 2 ≤ sizeLine; decide), fun p np => ?_⟩⟩
      refine ⟨p, [2147483647, 2048 * (v - 1048576) + (z - 3)], rfl, SqL.of upd_same, Nat.zero_lt_succ _, fun m hm1 hm2 => ⟨(by show 2 ≤ sizeLine; decide), fun p2 np2 => ⟨p2, [-2147483648, m], rfl, SqL.of upd_same, Nat.zero_lt_succ _, fun k hk1 hk2 => ?_⟩⟩⟩
      have h1 := hm2 2147483647 (by simp)
      have h2 := hk2 (-2147483648) (by simp)
      have h3 : k = -2147483648 ∨ k = m := by simpa using hk1
      exact q _ _ ⟨h2, by omega⟩ ((S3.new np).new np2) (((F2.tr F3).new np).new np2)
    refine ⟨_, rfl, rfl, _, rfl, ite3 (fun e => ?_) (fun e => ?_)⟩
    · refine ⟨_, rfl, (by show 2 ≤ sizeLine; decide), fun p np => ⟨_, rfl, st, ca, ns, 2, rfl, S2.new np, by decide, by decide, fun v H3 v0 v1 S3 F3 => ?_⟩⟩
      obtain ⟨y, hy, hy2⟩ := c2 v v0 v1 (-2147483648) 2147483647
      have hp := frs_p F3 upd_same (S2.ne np)
      exact ⟨_, _, _, _, rfl, rfl, SqL.of hp, hy, q _ _ ⟨by omega, by omega⟩ S3 ((F2.new np).tr F3)⟩
    · refine ⟨_, rfl, st, ca, ns, 4294967296, rfl, S2, by decide, by decide, fun v H3 v0 v1 S3 F3 => ⟨_, _, rfl, rfl, ?_⟩⟩
      exact q _ _ ⟨by omega, by omega⟩ S3 (F2.tr F3)
theorem ok_law_done (T : Txt w K mg a) : FnOk P w K mg base CX0 2 a.f_law_done a.d_law_done ["registers", "instruction"] (spDone K) := by
  have G_law_same : FnOk P w K mg base CX0 1 _ _ _ _ := ok_same T 0
  refine T.F__law_done.ok sc_law_done (fun vs H Q E h => ?_) (fun cdv A outer s H vs Q E hr h => ?_)
  · obtain ⟨_, _, _, _, _, rfl, _⟩ := h; rfl
  · obtain ⟨rg, ip, t, rs, rs', rfl, hrg, hl, h32, ht, hi, q⟩ := h
    have a32 : atI (rs.map V.int) 32 = some (.int t) := by
      have := atI_nat (j := 32) (at_map (ys := rs) (j := 32) (by omega))
      rwa [h32] at this
    have hts : t < (rs.map V.int).length := by rw [List.length_map]; omega
    have set_q : ∀ (H1 : Hp) (x : Int), Same H H1 → rs' = rs.set t x → Q (.bl true) (upd H1 rg (.lst ((rs.map V.int).set t (.int x)))) := fun H1 x s1 e => by
      rw [set_int, ← e]
      exact q _ upd_same fun b o hb nb => by rw [upd_ne nb]; exact s1 _ _ hb
    refine ⟨_, (pss_cons (ps_if (PW.pt (pw_or (pt_not (pt_val (pe_callB call_isi (by rfl) T.b_isinstance (by decide +kernel) (pa_cons (pv 1) (pa_cons (pe_bltn (v := .ty "tuple") (by rfl) T.b_tuple (by decide +kernel) rfl) pa_nil))))) (pw_or (pt_cmpR op_lt (pe_callB call_len_seq (by rfl) T.b_len (by decide +kernel) (pa_cons (pv 1) pa_nil)) pe_int (nomark _)) (pw_or1 (pt_not (pt_val (pe_call G_law_same (hr.mono (by decide)) rfl T.g__law_same T.k__law_same T.bd__law_same .nil pass0 (pa_cons (pe_ix ix_tup (pv 1) pe_int (fun _ _ => rfl)) (pa_cons (pe_ix ix_list (pv 0) pe_int (fun _ _ => rfl)) pa_nil))))))))) (pss_one (ps_ret pe_bl)) pss_nil)
      (pss_cons (ps_set (i := 2) sc_law_done.nd rfl (Or.inl rfl) (pe_ix ix_list (pv 0) pe_int (fun _ _ => rfl)))
      (pss_cons (ps_if (PW.pt (pw_and (pt_cmpR op_eq (pe_ix ix_tup (pv 1) pe_int (fun _ _ => rfl)) pe_str (nomark _)) (pw_and (pt_cmpR op_eq (pe_callB call_len_seq (by rfl) T.b_len (by decide +kernel) (pa_cons (pv 1) pa_nil)) pe_int (nomark _)) (pw_and1 (pt_val (pe_call G_law_same (hr.mono (by decide)) rfl T.g__law_same T.k__law_same T.bd__law_same .nil pass0 (pa_cons (pe_ix ix_tup (pv 1) pe_int (fun _ _ => rfl)) (pa_cons pe_int pa_nil)))))))) (pss_cons (ps_set (i := 3) sc_law_done.nd rfl (Or.inl rfl) (pe_ix ix_tup (pv 1) pe_int (fun _ _ => rfl)))
      (pss_cons (ps_if (PW.pt (pw_or (pt_not (pt_val (pe_callB call_isi (by rfl) T.b_isinstance (by decide +kernel) (pa_cons (pv 3) (pa_cons (pe_bltn (v := .ty "tuple") (by rfl) T.b_tuple (by decide +kernel) rfl) pa_nil))))) (pw_or (pt_cmpR op_ne (pe_callB call_len_seq (by rfl) T.b_len (by decide +kernel) (pa_cons (pv 3) pa_nil)) pe_int (nomark _)) (pw_or (pt_cmpR op_ne (pe_ix ix_tup (pv 3) pe_int (fun _ _ => rfl)) pe_str (nomark _)) (pw_or1 (pt_not (pt_val (pe_call G_law_same (hr.mono (by decide)) rfl T.g__law_same T.k__law_same T.bd__law_same .nil pass0 (pa_cons (pe_ix ix_tup (pv 3) pe_int (fun _ _ => rfl)) (pa_cons (pe_callTy call_int1 (by rfl) T.b_int (by decide +kernel) (pa_cons (pe_ix ix_tup (pv 3) pe_int (fun _ _ => rfl)) pa_nil)) pa_nil)))))))))) (pss_one (ps_ret pe_bl)) pss_nil)
      (pss_cons (ps_asg (pe_ix ix_tup (pv 3) pe_int (fun _ _ => rfl)) (pg_sub (pv 0) (pv 2) set_list))
      (pss_one (ps_ret pe_bl))))) pss_nil)
      (pss_cons (ps_if (PW.pt (pw_and (pt_cmpR op_eq (pe_ix ix_tup (pv 1) pe_int (fun _ _ => rfl)) pe_str (nomark _)) (pw_and (pt_cmpR op_eq (pe_callB call_len_seq (by rfl) T.b_len (by decide +kernel) (pa_cons (pv 1) pa_nil)) pe_int (nomark _)) (pw_and1 (pt_val (pe_call G_law_same (hr.mono (by decide)) rfl T.g__law_same T.k__law_same T.bd__law_same .nil pass0 (pa_cons (pe_ix ix_tup (pv 1) pe_int (fun _ _ => rfl)) (pa_cons (pe_callTy call_int1 (by rfl) T.b_int (by decide +kernel) (pa_cons (pe_ix ix_tup (pv 1) pe_int (fun _ _ => rfl)) pa_nil)) pa_nil)))))))) (pss_cons (ps_asg (pe_op op_mul (pe_ix ix_tup (pv 1) pe_int (fun _ _ => rfl)) pe_int) (pg_sub (pv 0) (pv 2) set_list))
      (pss_one (ps_ret pe_bl))) pss_nil)
      (pss_cons (ps_if (PW.pt (pw_and (pt_cmpR op_eq (pe_ix ix_tup (pv 1) pe_int (fun _ _ => rfl)) pe_str (nomark _)) (pw_and (pt_cmpR op_eq (pe_callB call_len_seq (by rfl) T.b_len (by decide +kernel) (pa_cons (pv 1) pa_nil)) pe_int (nomark _)) (pw_and1 (pt_val (pe_call G_law_same (hr.mono (by decide)) rfl T.g__law_same T.k__law_same T.bd__law_same .nil pass0 (pa_cons (pe_ix ix_tup (pv 1) pe_int (fun _ _ => rfl)) (pa_cons (pv 2) pa_nil)))))))) (pss_cons (ps_if (pt_not (pt_val (pe_call G_law_same (hr.mono (by decide)) rfl T.g__law_same T.k__law_same T.bd__law_same .nil pass0 (pa_cons (pe_ix ix_tup (pv 1) pe_int (fun _ _ => rfl)) (pa_cons (pe_callTy call_int1 (by rfl) T.b_int (by decide +kernel) (pa_cons (pe_ix ix_tup (pv 1) pe_int (fun _ _ => rfl)) pa_nil)) pa_nil))))) (pss_one (ps_ret pe_bl)) pss_nil)
      (pss_cons (ps_asg (pe_op op_add (pe_op op_sub (pe_ix ix_list (pv 0) (pv 2) (fun _ _ => rfl)) (pe_op op_mod (pe_callTy call_int1 (by rfl) T.b_int (by decide +kernel) (pa_cons (pe_ix ix_list (pv 0) (pv 2) (fun _ _ => rfl)) pa_nil)) pe_int)) (pe_ix ix_tup (pv 1) pe_int (fun _ _ => rfl))) (pg_sub (pv 0) (pv 2) set_list))
      (pss_one (ps_ret pe_bl)))) pss_nil)
      (pss_one (ps_ret pe_bl))))))), ?_⟩
    rcases hi with ⟨p, x, hI, hp, e⟩ | ⟨n, hI, e⟩ | ⟨m, hI, e⟩
    · refine ⟨_, rfl, _, _, _, _, _, rfl, .ty _, tyx_tup hI, kb "tuple" "tuple" true, _, rfl, iteF ?_⟩
      refine ⟨_, rfl, _, _, rfl, .inr hI, _, _, rfl, rfl, _, rfl, iteF ?_⟩
      refine ⟨_, rfl, _, _, _, _, rfl, rfl, hI, rfl, _, rfl, _, _, _, _, rfl, rfl, SqL.of hrg, a32, _, _, .int t, rfl, .int _, .int _, trivial, fun H1 s1 => ⟨_, rfl, iteF ?_⟩⟩
      have hI := seqT s1 hI
      have hp := seqT s1 hp
      have hrg := s1 _ _ hrg
      refine ⟨_, rfl, _, _, _, _, rfl, rfl, SqL.of hrg, a32, ?_⟩
      refine ⟨_, rfl, _, _, _, _, rfl, rfl, hI, rfl, rfl, _, rfl, iteT ?_⟩
      refine ⟨_, rfl, _, _, rfl, .inr hI, rfl, _, rfl, iteT ?_⟩
      refine ⟨_, rfl, _, _, _, _, rfl, rfl, hI, rfl, _, _, .int 0, rfl, .int _, .int _, trivial, fun H2 s2 => ⟨_, rfl, iteT ?_⟩⟩
      have hI := seqT s2 hI
      have hp := seqT s2 hp
      have hrg := s2 _ _ hrg
      refine ⟨_, rfl, _, _, _, _, rfl, rfl, hI, rfl, ?_⟩
      refine ⟨_, rfl, _, _, _, _, _, rfl, .ty _, tyx_tup hp, kb "tuple" "tuple" true, _, rfl, iteF ?_⟩
      refine ⟨_, rfl, _, _, rfl, .inr hp, rfl, _, rfl, iteF ?_⟩
      refine ⟨_, rfl, _, _, _, _, rfl, rfl, hp, rfl, rfl, _, rfl, iteF ?_⟩
      refine ⟨_, rfl, _, _, _, _, rfl, rfl, hp, rfl, _, rfl, _, _, _, _, rfl, rfl, hp, rfl, .inl ⟨_, rfl, _, _, .int x, rfl, .int _, .int _, trivial, fun H3 s3 => ⟨_, rfl, iteF ?_⟩⟩⟩
      refine ⟨_, rfl, _, _, _, _, rfl, rfl, seqT s3 hp, rfl, _, rfl, _, rfl, _, _, _, _, rfl, rfl, s3 _ _ hrg, ixN_nat hts, ?_⟩
      exact set_q _ x ((s1.trans s2).trans s3) e
    · refine ⟨_, rfl, _, _, _, _, _, rfl, .ty _, tyx_tup hI, kb "tuple" "tuple" true, _, rfl, iteF ?_⟩
      refine ⟨_, rfl, _, _, rfl, .inr hI, _, _, rfl, rfl, _, rfl, iteF ?_⟩
      refine ⟨_, rfl, _, _, _, _, rfl, rfl, hI, rfl, _, rfl, _, _, _, _, rfl, rfl, SqL.of hrg, a32, _, _, .int t, rfl, .int _, .int _, trivial, fun H1 s1 => ⟨_, rfl, iteF ?_⟩⟩
      have hI := seqT s1 hI
      have hrg := s1 _ _ hrg
      refine ⟨_, rfl, _, _, _, _, rfl, rfl, SqL.of hrg, a32, ?_⟩
      refine ⟨_, rfl, _, _, _, _, rfl, rfl, hI, rfl, rfl, _, rfl, ?_⟩
      rw [strF (x := "high") (y := "add")]
      refine iteF (iteF ?_)
      refine ⟨_, rfl, _, _, _, _, rfl, rfl, hI, rfl, rfl, _, rfl, iteT ?_⟩
      refine ⟨_, rfl, _, _, rfl, .inr hI, rfl, _, rfl, iteT ?_⟩
      refine ⟨_, rfl, _, _, _, _, rfl, rfl, hI, rfl, _, rfl, _, _, _, _, rfl, rfl, hI, rfl, .inl ⟨_, rfl, _, _, .int n, rfl, .int _, .int _, trivial, fun H2 s2 => ⟨_, rfl, iteT ?_⟩⟩⟩
      refine ⟨_, rfl, _, _, _, _, rfl, rfl, seqT s2 hI, rfl, _, _, rfl, rfl, .inr ⟨by decide, by decide⟩, _, rfl, _, rfl, _, _, _, _, rfl, rfl, s2 _ _ hrg, ixN_nat hts, ?_⟩
      exact set_q _ _ (s1.trans s2) e
    · refine ⟨_, rfl, _, _, _, _, _, rfl, .ty _, tyx_tup hI, kb "tuple" "tuple" true, _, rfl, iteF ?_⟩
      refine ⟨_, rfl, _, _, rfl, .inr hI, _, _, rfl, rfl, _, rfl, iteF ?_⟩
      refine ⟨_, rfl, _, _, _, _, rfl, rfl, hI, rfl, _, rfl, _, _, _, _, rfl, rfl, SqL.of hrg, a32, _, _, .int t, rfl, .int _, .int _, trivial, fun H1 s1 => ⟨_, rfl, iteF ?_⟩⟩
      have hI := seqT s1 hI
      have hrg := s1 _ _ hrg
      refine ⟨_, rfl, _, _, _, _, rfl, rfl, SqL.of hrg, a32, ?_⟩
      refine ⟨_, rfl, _, _, _, _, rfl, rfl, hI, rfl, rfl, _, rfl, ?_⟩
      rw [strF (x := "low") (y := "add")]
      refine iteF (iteF ?_)
      refine ⟨_, rfl, _, _, _, _, rfl, rfl, hI, rfl, rfl, _, rfl, ?_⟩
      rw [strF (x := "low") (y := "high")]
      refine iteF (iteF ?_)
      refine ⟨_, rfl, _, _, _, _, rfl, rfl, hI, rfl, rfl, _, rfl, iteT ?_⟩
      refine ⟨_, rfl, _, _, rfl, .inr hI, rfl, _, rfl, iteT ?_⟩
      refine ⟨_, rfl, _, _, _, _, rfl, rfl, hI, rfl, _, rfl, _, _, .int t, rfl, .int _, .int _, trivial, fun H2 s2 => ⟨_, rfl, iteT ?_⟩⟩
      have hI := seqT s2 hI
      have hrg := s2 _ _ hrg
      refine ⟨_, rfl, _, _, _, _, rfl, rfl, hI, rfl, _, rfl, _, _, _, _, rfl, rfl, hI, rfl, .inl ⟨_, rfl, _, _, .int m, rfl, .int _, .int _, trivial, fun H3 s3 => ⟨_, rfl, iteF ?_⟩⟩⟩
      have hI := seqT s3 hI
      have hrg := s3 _ _ hrg
      have at_ := atI_nat (at_map (ys := rs) (j := t) (by omega))
      refine ⟨_, rfl, _, rfl, _, _, _, _, rfl, rfl, SqL.of hrg, at_, _, rfl, _, rfl, _, _, _, _, rfl, rfl, SqL.of hrg, at_, .inl ⟨_, rfl, _, _, rfl, rfl, (by show (0 : Int) < 2048; decide), _, _, rfl, rfl, _, rfl, _, _, _, _, rfl, rfl, hI, rfl, _, _, rfl, rfl, _, rfl, _, rfl, _, _, _, _, rfl, rfl, hrg, ixN_nat hts, ?_⟩⟩
      exact set_q _ _ ((s1.trans s2).trans s3) e
end

def spLaw (K : PySem.W.Frag) : Sp := fun vs H Q _ => ∃ (a : Addr) (ns : List Int), vs = [.ref a] ∧ SqL K H a (ns.map V.int) ∧ ns.length ≤ 63 ∧ ∀ H', Q (.bl true) H'
theorem StD.neC_of {H : Hp} {st ca p : Addr} {ns : List Int} {o : HO} (S : StD H st ca ns) (e : H p = some o) : p = p := rfl
theorem FnOk.calm {P : Program} {w : World} {K : PySem.W.Frag} {mg : Str → Option Value} {base : Heap} {k : Nat} {f : Addr} {fd : FuncData} {ps : List Str} {sp : Sp} (F : FnOk P w K mg base (L2.CX P w) k f fd ps sp) : FnOk P w K mg base CX0 k f fd ps (fun vs H Q _ => sp vs H Q E0) :=
  ⟨fun vs H Q _ q => F.len vs H Q E0 q, fun A outer s H args us vs Q E hr he hb hv hs => codeAny_mono (F.run A outer s H args us vs Q E0 hr he hb hv hs) fun r s' h => by
    match r, h with
    | .ok (.ret u), h => exact h
    | .ok .next, h => exact h.elim
    | .ok .brk, h => exact h.elim
    | .ok .cont, h => exact h.elim
    | .error e, h =>
      obtain ⟨_, _, _, _, _, _, _, _, _, _, _, _, z⟩ := h
      exact z.elim⟩
theorem shW_no {x : Int} (h : shW x = false) : x < -16384 ∨ 16383 < x := by
  unfold shW at h
  by_cases c : -16384 ≤ x
  · rw [decide_eq_true c] at h
    have := of_decide_eq_false (show decide (x ≤ 16383) = false from h)
    omega
  · omega
theorem shW_yes {x : Int} (h : shW x = true) : -16384 ≤ x ∧ x ≤ 16383 := by
  unfold shW at h
  by_cases c : -16384 ≤ x
  · rw [decide_eq_true c] at h
    exact ⟨c, of_decide_eq_true (show decide (x ≤ 16383) = true from h)⟩
  · rw [decide_eq_false c] at h
    exact nomatch h
theorem okF_of {f : Nat} {x : Int} (h1 : fLo f ≤ x) (h2 : x ≤ fHi f) : okF f x = true := by
  unfold okF
  rw [decide_eq_true h1, decide_eq_true h2] <;> rfl
theorem set_same {rs : List Int} {t : Nat} {x y : Int} : (rs.set t x).set t y = rs.set t y := List.set_set ..
section
variable {P : Program} {w : World} {K : PySem.W.Frag} {mg : Str → Option Value} {base : Heap} {a : Ad}
theorem ok_encodeC (T : Txt w K mg a) : FnOk P w K mg base CX0 3 a.f_encode a.d_encode ["instruction"] (spEncC K) := (FnOk.calm (ok_encode T)).imp fun vs H Q E h => by
  obtain ⟨ip, k, ws, xs, h1, h2, h3, h4, h5, h6, q⟩ := h
  exact ⟨ip, k, ws, xs, h1, h2, h3, h4, h5, fun H' s' => ⟨fun _ => q H' s', fun z => by rw [h6] at z; exact nomatch z⟩⟩
/-- what the law's loop asks of an instruction -/
def insE (K : PySem.W.Frag) (H : Hp) (ip : Addr) : Prop := ∃ k ws xs, k < 29 ∧ SqT K H ip (.str (nmS k) :: ws) ∧ ArVs K H ws xs ∧ wtS (fm k) xs ∧ okS (fm k) xs = true ∧ 0 ≤ encV k xs ∧ encV k xs ≤ 4294967295
theorem insE_same {K : PySem.W.Frag} {H H' : Hp} {ip : Addr} (s : Same H H') (h : insE K H ip) : insE K H' ip := by
  obtain ⟨k, ws, xs, h1, h2, h3, h4⟩ := h
  exact ⟨k, ws, xs, h1, seqT s h2, h3.same s, h4⟩
theorem e_add {K : PySem.W.Frag} {H : Hp} {ip p : Addr} {t : Nat} {x : Int} (ht : t < 32) (hx : shW x = true) (h1 : SqT K H ip [.str "add", .int t, .int 0, .ref p]) (h2 : SqT K H p [.str "int", .int x]) : insE K H ip := by
  have hx := shW_yes hx
  have o0 : okF 0 (t : Int) = true := okF_of (by show (0 : Int) ≤ _; omega) (by show _ ≤ (31 : Int); omega)
  have o1 : okF 1 0 = true := by decide
  have o3 : okF 3 x = true := okF_of (by show (-16384 : Int) ≤ _; omega) (by show _ ≤ (16383 : Int); omega)
  refine ⟨1, [.int t, .int 0, .ref p], [.n t, .n 0, .s true x], by decide, h1, .cons (.n _) (.cons (.n _) (.cons (.s h2) .nil)), ?_, ?_, ?_⟩
  · exact ⟨by show 0 < 8; decide, by show 1 < 8; decide, rfl, trivial⟩
  · show cond (okF 0 _) (cond (okF 1 _) (cond (okF 3 _) true false) false) false = true
    rw [o0, o1, o3] <;> rfl
  · have e : encV 1 [.n t, .n 0, .s true x] = 1 * 67108864 + ((t : Int) % 32 * 2097152 + (0 % 32 * 65536 + ((x % 32768 * 1 + 32768) + 0))) := rfl
    rw [e]
    omega
theorem e_high {K : PySem.W.Frag} {H : Hp} {ip : Addr} {t : Nat} {x : Int} (ht : t < 32) (hx : wd x) (h1 : SqT K H ip [.str "high", .int t, .int (x / 2048)]) : insE K H ip := by
  obtain ⟨x0, x1⟩ := hx
  have o0 : okF 0 (t : Int) = true := okF_of (by show (0 : Int) ≤ _; omega) (by show _ ≤ (31 : Int); omega)
  have o5 : okF 5 (x / 2048) = true := okF_of (by show (-1048576 : Int) ≤ _; omega) (by show _ ≤ (1048575 : Int); omega)
  refine ⟨9, [.int t, .int (x / 2048)], [.n t, .n (x / 2048)], by decide, h1, .cons (.n _) (.cons (.n _) .nil), ?_, ?_, ?_⟩
  · exact ⟨by show 0 < 8; decide, by show 5 < 8; decide, trivial⟩
  · show cond (okF 0 _) (cond (okF 5 _) true false) false = true
    rw [o0, o5] <;> rfl
  · have e : encV 9 [.n t, .n (x / 2048)] = 9 * 67108864 + ((t : Int) % 32 * 2097152 + ((x / 2048) % 2097152 * 1 + 0)) := rfl
    rw [e]
    omega
theorem e_low {K : PySem.W.Frag} {H : Hp} {ip : Addr} {t : Nat} {x : Int} (ht : t < 32) (h1 : SqT K H ip [.str "low", .int t, .int t, .int (x % 2048)]) : insE K H ip := by
  have o0 : okF 0 (t : Int) = true := okF_of (by show (0 : Int) ≤ _; omega) (by show _ ≤ (31 : Int); omega)
  have o1 : okF 1 (t : Int) = true := okF_of (by show (0 : Int) ≤ _; omega) (by show _ ≤ (31 : Int); omega)
  have o4 : okF 4 (x % 2048) = true := okF_of (by show (0 : Int) ≤ _; omega) (by show _ ≤ (2047 : Int); omega)
  refine ⟨10, [.int t, .int t, .int (x % 2048)], [.n t, .n t, .n (x % 2048)], by decide, h1, .cons (.n _) (.cons (.n _) (.cons (.n _) .nil)), ?_, ?_, ?_⟩
  · exact ⟨by show 0 < 8; decide, by show 1 < 8; decide, by show 4 < 8; decide, trivial⟩
  · show cond (okF 0 _) (cond (okF 1 _) (cond (okF 4 _) true false) false) false = true
    rw [o0, o1, o4] <;> rfl
  · have e : encV 10 [.n t, .n t, .n (x % 2048)] = 10 * 67108864 + ((t : Int) % 32 * 2097152 + ((t : Int) % 32 * 65536 + ((x % 2048 % 32768 * 1 + 32768) + 0))) := rfl
    rw [e]
    omega
end

theorem dp_ints {K : PySem.W.Frag} {H : Hp} : ∀ rs : List Int, DpAll K H (rs.map V.int) (rs.map PyData.int)
  | [] => .nil
  | x :: rs => .cons (.int x) (dp_ints rs)
theorem lay_ints : ∀ rs : List Int, PyData.canLayAll0 (rs.map PyData.int) = true
  | [] => rfl
  | x :: rs => by
    show (PyData.canLay0 (.int x) && PyData.canLayAll0 (rs.map PyData.int)) = true
    rw [lay_ints rs] <;> rfl
theorem size_ok (x : Int) : (1 : Int) + (if (decide (x < -16384) || decide (16383 < x)) = true then (1 : Int) else 0) = if shW x = true then 1 else 2 := by
  cases h : shW x with
  | true =>
    obtain ⟨h1, h2⟩ := shW_yes h
    rw [decide_eq_false (show ¬ x < -16384 by omega), decide_eq_false (show ¬ 16383 < x by omega)]
    rfl
  | false =>
    have h1 := shW_no h
    have e : (decide (x < -16384) || decide (16383 < x)) = true := by
      rcases h1 with h1 | h1
      · rw [decide_eq_true h1]; rfl
      · rw [decide_eq_true h1, Bool.or_true]
    rw [e]
    rfl
/-- the instructions of a constant, and what they do -/
structure Acts (K : PySem.W.Frag) (H : Hp) (t : Nat) (x : Int) (acts : List Addr) (f : Nat → List Int → List Int) : Prop where
  z : ∀ rs, f 0 rs = rs
  e : ∀ rs, f acts.length rs = rs.set t x
  l : ∀ i rs, (f i rs).length = rs.length
  k : ∀ i rs, (f i rs).getD 32 0 = rs.getD 32 0
  i : ∀ (i : Nat) (p : Addr), acts[i]? = some p → insE K H p ∧ ∀ rs, t < rs.length → insS K H p t (f i rs) (f (i + 1) rs)
theorem insS_kt {K : PySem.W.Frag} {H H' : Hp} {ip : Addr} {t : Nat} {rs rs' : List Int} (s : KT K H H') (h : insS K H ip t rs rs') : insS K H' ip t rs rs' := by
  rcases h with ⟨p, x, h1, h2, h3⟩ | ⟨n, h1, h2⟩ | ⟨m, h1, h2⟩
  · exact .inl ⟨p, x, s _ _ h1, s _ _ h2, h3⟩
  · exact .inr (.inl ⟨n, s _ _ h1, h2⟩)
  · exact .inr (.inr ⟨m, s _ _ h1, h2⟩)
theorem ArVs_kt {K : PySem.W.Frag} {H H' : Hp} (s : KT K H H') : ∀ {vs : List V} {xs : List Ar}, ArVs K H vs xs → ArVs K H' vs xs
  | _, _, .nil => .nil
  | _, _, .cons (.n x) r => .cons (.n x) (ArVs_kt s r)
  | _, _, .cons (.s h) r => .cons (.s (s _ _ h)) (ArVs_kt s r)
theorem insE_kt {K : PySem.W.Frag} {H H' : Hp} {ip : Addr} (s : KT K H H') (h : insE K H ip) : insE K H' ip := by
  obtain ⟨k, ws, xs, h1, h2, h3, h4⟩ := h
  exact ⟨k, ws, xs, h1, s _ _ h2, ArVs_kt s h3, h4⟩
theorem Acts.kt {K : PySem.W.Frag} {H H' : Hp} {t : Nat} {x : Int} {acts : List Addr} {f : Nat → List Int → List Int} (h : Acts K H t x acts f) (s : KT K H H') : Acts K H' t x acts f :=
  ⟨h.z, h.e, h.l, h.k, fun i p hp => ⟨insE_kt s (h.i i p hp).1, fun rs hl => insS_kt s ((h.i i p hp).2 rs hl)⟩⟩
theorem depth_ints : ∀ rs : List Int, PyData.depthAll (rs.map PyData.int) ≤ 1
  | [] => by simp [PyData.depthAll]
  | x :: rs => by
    have := depth_ints rs
    simp only [List.map_cons, PyData.depthAll, PyData.depth]
    omega
theorem shaped_ints (rs : List Int) : SeqAt.shaped (.list (rs.map PyData.int)) = true := by
  have := depth_ints rs
  unfold SeqAt.shaped
  rw [show PyData.canLay0 (.list (rs.map PyData.int)) = true from lay_ints rs, Bool.true_and]
  refine decide_eq_true ?_
  simp only [PyData.depth]
  omega
theorem set_32 {rs : List Int} {t : Nat} {x : Int} (h : t < 32) : (rs.set t x).getD 32 0 = rs.getD 32 0 := by
  rw [List.getD_eq_getElem?_getD, List.getD_eq_getElem?_getD, List.getElem?_set_ne (by omega)]
theorem set_at {rs : List Int} {t : Nat} {x : Int} (h : t < rs.length) : (rs.set t x).getD t 0 = x := by
  rw [List.getD_eq_getElem?_getD, List.getElem?_set_self h]
  rfl
theorem acts_short {K : PySem.W.Frag} {H : Hp} {p r : Addr} {t : Nat} {x : Int} (ht : t < 32) (hs : shW x = true) (hp : H p = some (.tup [.str "int", .int x])) (hr : H r = some (.tup [.str "add", .int t, .int 0, .ref p])) :
    Acts K H t x [r] fun i rs => if i = 0 then rs else rs.set t x := by
  refine ⟨fun _ => rfl, fun _ => rfl, fun i rs => ?_, fun i rs => ?_, fun i q hq => ?_⟩
  · split <;> simp
  · split
    · rfl
    · exact set_32 ht
  · match i, hq with
    | 0, hq =>
      obtain rfl := Option.some.inj hq
      exact ⟨e_add ht hs (SqT.of hr) (SqT.of hp), fun rs _ => .inl ⟨p, x, SqT.of hr, SqT.of hp, rfl⟩⟩
    | i + 1, hq => simp at hq
theorem acts_long {K : PySem.W.Frag} {H : Hp} {p r : Addr} {t : Nat} {x : Int} (ht : t < 32) (hw : wd x) (hp : H p = some (.tup [.str "high", .int t, .int (x / 2048)])) (hr : H r = some (.tup [.str "low", .int t, .int t, .int (x % 2048)])) :
    Acts K H t x [p, r] fun i rs => if i = 0 then rs else if i = 1 then rs.set t (x / 2048 * 2048) else rs.set t x := by
  refine ⟨fun _ => rfl, fun _ => rfl, fun i rs => ?_, fun i rs => ?_, fun i q hq => ?_⟩
  · repeat' split
    all_goals simp
  · repeat' split
    · rfl
    · exact set_32 ht
    · exact set_32 ht
  · match i, hq with
    | 0, hq =>
      obtain rfl := Option.some.inj hq
      exact ⟨e_high ht hw (SqT.of hp), fun rs _ => .inr (.inl ⟨_, SqT.of hp, rfl⟩)⟩
    | 1, hq =>
      obtain rfl := Option.some.inj hq
      refine ⟨e_low ht (SqT.of hr), fun rs hl => .inr (.inr ⟨_, SqT.of hr, ?_⟩)⟩
      show rs.set t x = (rs.set t (x / 2048 * 2048)).set t ((rs.set t (x / 2048 * 2048)).getD t 0 - (rs.set t (x / 2048 * 2048)).getD t 0 % 2048 + x % 2048)
      rw [set_at hl, set_same, show x / 2048 * 2048 - x / 2048 * 2048 % 2048 + x % 2048 = x by omega]
    | i + 2, hq => simp at hq
section
variable {P : Program} {w : World} {K : PySem.W.Frag} {mg : Str → Option Value} {base : Heap} {a : Ad}
theorem ok_law (T : Txt w K mg a) : FnOk P w K mg base CX0 9 a.f_law a.d_law ["script"] (spLaw K) := by
  have G_law_state : FnOk P w K mg base CX0 1 _ _ _ _ := ok_law_state T
  have G_law_draw : FnOk P w K mg base CX0 3 _ _ _ _ := ok_law_draw T
  have G_law_word : FnOk P w K mg base CX0 4 _ _ _ _ := ok_law_word T
  have G_constant : FnOk P w K mg base CX0 2 _ _ _ _ := ok_constant T
  have G_law_done : FnOk P w K mg base CX0 2 _ _ _ _ := ok_law_done T
  have G_encode : FnOk P w K mg base CX0 3 _ _ _ _ := ok_encodeC T
  have G_law_same : FnOk P w K mg base CX0 1 _ _ _ _ := ok_same T 0
  refine T.F_law.ok sc_law (fun vs H Q E h => ?_) (fun cdv A outer s H vs Q E hr h => ?_)
  · obtain ⟨_, _, rfl, _⟩ := h; rfl
  · obtain ⟨sa, ns, rfl, hS, hlen, q⟩ := h
    refine ⟨_, (pss_cons (ps_set (i := 1) sc_law.nd rfl (Or.inr rfl) (pe_call G_law_state (hr.mono (by decide)) rfl T.g__law_state T.k__law_state T.bd__law_state .nil pass0 (pa_cons (pv 0) (pa_cons pe_int pa_nil))))
      (pss_cons (ps_set (i := 2) sc_law.nd rfl (Or.inl rfl) (pe_op op_add pe_int (pe_call G_law_draw (hr.mono (by decide)) rfl T.g__law_draw T.k__law_draw T.bd__law_draw .nil pass0 (pa_cons (pv 1) (pa_cons pe_int pa_nil)))))
      (pss_cons (ps_set (i := 3) sc_law.nd rfl (Or.inl rfl) (pe_call G_law_word (hr.mono (by decide)) rfl T.g__law_word T.k__law_word T.bd__law_word .nil pass0 (pa_cons (pv 1) pa_nil)))
      (C8.pss_cut (ps_set (i := 4) sc_law.nd rfl (Or.inl rfl) (pe_call G_constant (hr.mono (by decide)) rfl T.g_constant T.k_constant T.bd_constant .nil pass0 (pa_cons (pv 2) (pa_cons (pv 3) pa_nil))))
      (C8.pss_cut (ps_set (i := 5) sc_law.nd rfl (Or.inl rfl) (pe_op op_add pe_int (pe_callTy call_int1 (by rfl) T.b_int (by decide +kernel) (pa_cons (pe_or (pe_cmpR op_lt (pv 3) (pe_un un_neg pe_int) (nomark _)) (pe_one (pe_cmpR op_gt (pv 3) pe_int (nomark _)))) pa_nil))))
      (pss_cons (ps_if (PW.pt (pw_or (pt_not (pt_val (pe_callB call_isi (by rfl) T.b_isinstance (by decide +kernel) (pa_cons (pv 4) (pa_cons (pe_bltn (v := .ty "list") (by rfl) T.b_list (by decide +kernel) rfl) pa_nil))))) (pw_or1 (pt_cmpR op_ne (pe_callB call_len_seq (by rfl) T.b_len (by decide +kernel) (pa_cons (pv 4) pa_nil)) (pv 5) (nomark _))))) (pss_one (ps_ret pe_bl)) pss_nil)
      (C8.pss_cut (ps_set (i := 6) sc_law.nd rfl (Or.inl rfl) (pe_op op_cat (pe_op op_cat (pe_lst (pa_cons pe_int pa_nil)) (pe_lc (own := [("k", 7)]) (g := gName 7) rfl sc_law.nd (pi_range1 rfl T.b_range (pa_cons pe_int pa_nil)) (blkOk_by (own := [("k", 7)]) (N := ["script", "state", "target", "word", "actual", "size", "registers", "k", "due", "instruction", "code"]) (sc := defScope s_law) (by decide +kernel)) (fun _ _ _ _ _ => pg_name (i := 7) sc_law.nd rfl (Or.inl rfl)) (fun _ _ _ _ _ => pts_nil) (fun _ _ _ _ _ => (pe_op op_sub (pe_call G_law_draw (hr.mono (by decide)) rfl T.g__law_draw T.k__law_draw T.bd__law_draw .nil pass0 (pa_cons (pv 1) (pa_cons pe_int pa_nil))) pe_int)))) (pe_lst (pa_cons (pv 2) pa_nil))))
      (pss_cons (ps_set (i := 8) sc_law.nd rfl (Or.inl rfl) (pe_callTy call_list_of (by rfl) T.b_list (by decide +kernel) (pa_cons (pv 6) pa_nil)))
      (pss_cons (ps_asg (pv 3) (pg_sub (pv 8) (pv 2) set_list))
      (pss_cons (ps_for PassesOwn.never rfl (pi_list (pv 4)) (pg_name (i := 9) sc_law.nd rfl (Or.inl rfl)) (pss_cons (ps_if (pt_not (pt_val (pe_call G_law_done (hr.mono (by decide)) rfl T.g__law_done T.k__law_done T.bd__law_done .nil pass0 (pa_cons (pv 6) (pa_cons (pv 9) pa_nil))))) (pss_one (ps_ret pe_bl)) pss_nil)
      (pss_cons (ps_set (i := 10) sc_law.nd rfl (Or.inl rfl) (pe_call G_encode (hr.mono (by decide)) rfl T.g_encode T.k_encode T.bd_encode .nil pass0 (pa_cons (pv 9) pa_nil)))
      (pss_one (ps_if (PW.pt (pw_or (pt_not (pt_val (pe_callB call_isi (by rfl) T.b_isinstance (by decide +kernel) (pa_cons (pv 10) (pa_cons (pe_bltn (v := .ty "int") (by rfl) T.b_int (by decide +kernel) rfl) pa_nil))))) (pw_or (pt_val (pe_callB call_isi (by rfl) T.b_isinstance (by decide +kernel) (pa_cons (pv 10) (pa_cons (pe_bltn (v := .ty "bool") (by rfl) T.b_bool (by decide +kernel) rfl) pa_nil)))) (pw_or (pt_cmpR op_lt (pv 10) pe_int (nomark _)) (pw_or1 (pt_cmpR op_gt (pv 10) pe_int (nomark _))))))) (pss_one (ps_ret pe_bl)) pss_nil)))))
      (pss_one (ps_ret (pe_and (pe_cmpR (op_eqD hr.units) (pv 6) (pv 8) (nomark _)) (pe_one (pe_call G_law_same (hr.mono (by decide)) rfl T.g__law_same T.k__law_same T.bd__law_same .nil pass0 (pa_cons (pv 3) (pa_cons (pe_ix ix_list (pv 6) (pv 2) (fun _ _ => rfl)) pa_nil))))))))))))))))), ?_⟩
    refine ⟨_, rfl, sa, ns, 0, rfl, hS, hlen, fun st ca H1 t0 b0 nst nca hca hst s1 => ?_⟩
    have S1 : StD H1 st ca ns := ⟨⟨_, _, _, _, _, Int.le_refl 0, hst⟩, hca⟩
    refine ⟨_, rfl, st, ca, ns, 31, rfl, S1, by decide, by decide, fun v H2 v0 v1 S2 F2 => ⟨_, _, rfl, rfl, ?_⟩⟩
    have ht : ((1 + v).toNat : Int) = 1 + v := by omega
    have ht32 : (1 + v).toNat < 32 := by omega
    generalize (1 + v).toNat = t at ht ht32
    refine ⟨_, rfl, st, ca, ns, rfl, S2, fun x H3 hx S3 F3 => ?_⟩
    refine ⟨fun σ H' => ∃ (al : Addr) (acts : List Addr) (f : Nat → List Int → List Int), StD H' st ca ns ∧ H' al = some (.lst (acts.map V.ref)) ∧ (acts.length : Int) = (if shW x = true then 1 else 2) ∧ Acts K H' t x acts f ∧ σ = [some (.ref sa), some (.ref st), some (.int t), some (.int x), some (.ref al), none, none, none, none, none, none], ?_, ?_⟩
    · refine ⟨_, rfl, _, rfl, 1 + v, x, rfl, fun hs p r l H4 s4 hp hq hl => ?_, fun hs p r l H4 s4 hp hq hl => ?_⟩
      · rw [← ht] at hq
        refine ⟨l, [r], _, S3.same s4, hl, by rw [if_pos hs]; rfl, acts_short ht32 hs hp hq, ?_⟩
        rw [ht]; rfl
      · rw [← ht] at hp hq
        refine ⟨l, [p, r], _, S3.same s4, hl, by rw [if_neg (by rw [hs]; exact Bool.false_ne_true)]; rfl, acts_long ht32 hx hp hq, ?_⟩
        rw [ht]; rfl
    clear S1 S2 F2 S3 F3 hst hca
    rintro σ H4 ⟨al, acts, f, S4, hal, hal2, hA, rfl⟩
    refine ⟨fun σ H' => H' = H4 ∧ σ = [some (.ref sa), some (.ref st), some (.int t), some (.int x), some (.ref al), some (.int acts.length), none, none, none, none, none], ?_, ?_⟩
    · have e := size_ok x
      rw [← hal2] at e
      refine ⟨_, rfl, _, rfl, _, _, rfl, rfl, _, rfl, ite3 (fun e1 => ?_) (fun e1 => ?_)⟩
      · have e1' : decide (x < -16384) = true := e1
        rw [e1'] at e
        exact .inr ⟨true, rfl, _, _, rfl, rfl, rfl, congrArg (fun z => [some (V.ref sa), some (V.ref st), some (V.int t), some (V.int x), some (V.ref al), some (V.int z), none, none, none, none, none]) e⟩
      · have e1' : decide (x < -16384) = false := e1
        rw [e1', Bool.false_or] at e
        exact ⟨_, rfl, _, _, rfl, rfl, .inr ⟨_, rfl, _, _, rfl, rfl, rfl, congrArg (fun z => [some (V.ref sa), some (V.ref st), some (V.int t), some (V.int x), some (V.ref al), some (V.int z), none, none, none, none, none]) e⟩⟩
    rintro σ H5 ⟨rfl, rfl⟩
    refine ⟨_, rfl, _, _, _, _, _, rfl, .ty _, .base (.lst hal), kb "list" "list" true, _, rfl, iteF ?_⟩
    refine ⟨_, rfl, _, _, rfl, .inl (SqL.of hal), _, rfl, rfl, _, rfl, ?_⟩
    rw [List.length_map, show (!decide (V.int (acts.length : Int) = V.int (acts.length : Int))) = false by simp]
    refine iteF ?_
    -- the registers
    refine ⟨fun σ H' => ∃ (rg : Addr) (rs : List Int) (y : Option V), StD H' st ca ns ∧ KT K H5 H' ∧ H' al = some (.lst (acts.map V.ref)) ∧ H' rg = some (.lst (rs.map V.int)) ∧ rs.length = 33 ∧ rs.getD 32 0 = (t : Int) ∧ rg ≠ al ∧
      σ = [some (.ref sa), some (.ref st), some (.int t), some (.int x), some (.ref al), some (.int acts.length), some (.ref rg), y, none, none, none], ?_, ?_⟩
    · refine ⟨(by show 1 ≤ sizeLine; decide), fun p0 n0 => ?_⟩
      have S6 := S4.new n0 (o := .lst [V.int 0])
      have s6 := sN (Same.refl H5) n0 (o := .lst [V.int 0])
      have b0 : upd H5 p0 (.lst [V.int 0]) p0 = some (.lst [V.int 0]) := upd_same
      have np0 : p0 ≠ st := S4.ne n0
      generalize upd H5 p0 (.lst [V.int 0]) = H6 at b0 S6 s6 ⊢
      refine ⟨_, rfl, by decide, by decide, fun D nD => ?_⟩
      have nDs : D ≠ st := S6.ne nD
      have nDc : D ≠ ca := S6.neC nD
      have nD0 : p0 ≠ D := ne_of_none b0 nD
      have keep : ∀ b o, H6 b = some o → b ≠ st → upd H6 D (.lst []) b = some o := fun b o e _ => by rw [upd_ne (ne_of_none e nD)]; exact e
      refine lc_range (lo := 0) (n := 31) (fun i H' => ∃ gs : List Int, H' D = some (.lst (gs.map V.int)) ∧ gs.length = i ∧ StD H' st ca ns ∧ (∀ b o, H6 b = some o → b ≠ st → H' b = some o)) ⟨[], upd_same, rfl, S6.new nD, keep⟩ ?_ ?_
      · rintro i H7 hi ⟨gs, g1, g2, S7, f7⟩
        refine ⟨rfl, _, rfl, st, ca, ns, 1000, rfl, S7, by decide, by decide, fun v H8 v0 v1 S8 F8 => ⟨_, _, rfl, rfl, gs.map V.int, F8 _ _ g1 nDs, sz (by rw [List.length_map]; omega), gs ++ [v - 500], ?_, by simp [g2], ?_, fun b o e n1 => ?_⟩⟩
        · rw [upd_same, List.map_append]
          rfl
        · exact S8.upd nDs nDc
        · rw [upd_ne (ne_of_none e nD)]
          exact F8 _ _ (f7 b o e n1) n1
      · rintro H7 ⟨gs, g1, g2, S7, f7⟩
        have c0 := f7 _ _ b0 np0
        refine ⟨_, _, _, _, rfl, rfl, c0, g1, (by simp [g2]; decide), fun p1 n1 => ?_⟩
        refine ⟨_, rfl, (by show 1 ≤ sizeLine; decide), fun p2 n2 => ?_⟩
        have c1 := sN (Same.refl _) n2 (o := .lst [V.int t]) p1 (.lst ([V.int 0] ++ gs.map V.int)) upd_same
        refine ⟨_, _, _, _, rfl, rfl, c1, upd_same, (by simp [g2]; decide), fun rg nrg => ?_⟩
        have s8 := sN (sN (sN (Same.refl H7) n1 (o := .lst ([V.int 0] ++ gs.map V.int))) n2 (o := .lst [V.int t])) nrg (o := .lst ([V.int 0] ++ gs.map V.int ++ [V.int t]))
        have hal6 := s6 _ _ hal
        have nas : al ≠ st := by
          obtain ⟨_, _, _, _, _, _, e⟩ := S4.at'
          intro z
          rw [z, e] at hal
          cases acts with
          | nil => exact nomatch hal
          | cons u r => cases r with
            | nil => exact nomatch hal
            | cons u2 r2 => injection hal with hal; injection hal with hal; injection hal with _ hal; injection hal with hal _; exact nomatch hal
        have hal7 := f7 _ _ hal6 nas
        have hal8 := s8 _ _ hal7
        have nral : rg ≠ al := fun z => by
          rw [z] at nrg
          rw [sN (sN (Same.refl H7) n1 (o := .lst ([V.int 0] ++ gs.map V.int))) n2 (o := .lst [V.int t]) _ _ hal7] at nrg
          exact nomatch nrg
        refine ⟨rg, 0 :: (gs ++ [(t : Int)]), _, S7.same s8, ?_, hal8, ?_, by simp [g2], ?_, nral, rfl⟩
        · refine (KT.same s6).tr (KT.tr (fun b ys h => ?_) (KT.same s8))
          obtain ⟨_, _, _, _, _, _, e⟩ := S6.at'
          rcases h with (h | ⟨u, h⟩) | h
          · exact .inl (.inl (f7 _ _ h (ne_of h e fun z => nomatch z)))
          · exact .inl (.inr ⟨u, f7 _ _ h (ne_of h e fun z => nomatch z)⟩)
          · exact .inr h
        · rw [upd_same]
          simp
        · rw [List.getD_eq_getElem?_getD, List.getElem?_cons_succ, List.getElem?_append_right (by omega), g2]
          rfl
    rintro σ H6 ⟨rg, rs, y, S6, k6, hal6, hrg, hl, h32, nra, rfl⟩
    have hA := hA.kt k6
    -- due
    refine ⟨_, rfl, rg, _, rfl, .inl (SqL.of hrg), fun du ndu => ?_⟩
    have ndr : du ≠ rg := fun z => by rw [z, hrg] at ndu; exact nomatch ndu
    have nda : du ≠ al := fun z => by rw [z, hal6] at ndu; exact nomatch ndu
    refine ⟨_, rfl, _, rfl, _, rfl, _, _, _, _, rfl, rfl, upd_same, ixN_nat (by rw [List.length_map]; omega), ?_⟩
    rw [set_int, upd_upd]
    have hrg7 : upd H6 du (.lst ((rs.set t x).map V.int)) rg = some (.lst (rs.map V.int)) := by rw [upd_ne ndr.symm]; exact hrg
    have hal7 : upd H6 du (.lst ((rs.set t x).map V.int)) al = some (.lst (acts.map V.ref)) := by rw [upd_ne nda.symm]; exact hal6
    have hdu : upd H6 du (.lst ((rs.set t x).map V.int)) du = some (.lst ((rs.set t x).map V.int)) := upd_same
    have hA := hA.kt (KT.new ndu (o := .lst ((rs.set t x).map V.int)))
    generalize upd H6 du (.lst ((rs.set t x).map V.int)) = H7 at hrg7 hal7 hdu hA ⊢
    refine ⟨_, rfl, _, rfl, ⟨_, SqL.of hal7⟩, for_list (K := K) (a := al) (xs := acts.map V.ref) (fun i σ H' => H' rg = some (.lst ((f i rs).map V.int)) ∧ (∀ b o, H7 b = some o → b ≠ rg → H' b = some o) ∧ ∃ z1 z2, σ = [some (.ref sa), some (.ref st), some (.int t), some (.int x), some (.ref al), some (.int acts.length), some (.ref rg), y, some (.ref du), z1, z2])
      ⟨by rw [hA.z]; exact hrg7, fun b o e _ => e, none, none, rfl⟩ (fun i σ H' _ ⟨_, fr, _⟩ => SqL.of (fr _ _ hal7 nra.symm)) ?_ ?_⟩
    · rintro i v σ H8 hv ⟨h8, fr, z1, z2, rfl⟩
      obtain ⟨ip, hip, rfl⟩ : ∃ ip, acts[i]? = some ip ∧ v = V.ref ip := by
        rw [List.getElem?_map] at hv
        cases e : acts[i]? with
        | none => rw [e] at hv; cases hv
        | some c => rw [e] at hv; exact ⟨c, rfl, (Option.some.inj hv).symm⟩
      have k8 : KT K H7 H8 := fun b ys h => by
        rcases h with (h | ⟨u, h⟩) | h
        · exact .inl (.inl (fr _ _ h (ne_of h hrg7 fun z => nomatch z)))
        · exact .inl (.inr ⟨u, fr _ _ h (ne_of h hrg7 fun z => nomatch z)⟩)
        · exact .inr h
      have hi := (hA.kt k8).i i ip hip
      refine ⟨_, rfl, _, rfl, rg, ip, t, f i rs, f (i + 1) rs, rfl, h8, by rw [hA.l]; exact hl, by rw [hA.k]; exact h32, ht32, hi.2 rs (by omega), fun H9 h9 fr9 => ⟨_, rfl, iteF ?_⟩⟩
      have k9 : KT K H8 H9 := fun b ys h => by
        rcases h with (h | ⟨u, h⟩) | h
        · exact .inl (.inl (fr9 _ _ h (ne_of h h8 fun z => nomatch z)))
        · exact .inl (.inr ⟨u, fr9 _ _ h (ne_of h h8 fun z => nomatch z)⟩)
        · exact .inr h
      obtain ⟨k, ws, xs, c1, c2, c3, c4, c5, c6, c7⟩ := insE_kt k9 hi.1
      refine ⟨_, rfl, ip, k, ws, xs, c1, rfl, c2, c3, c4, c5, fun H10 s10 => ?_⟩
      refine ⟨_, rfl, _, _, _, _, _, rfl, .ty _, .base (.int _), kb "int" "int" true, _, rfl, iteF ?_⟩
      refine ⟨_, rfl, _, _, _, _, _, rfl, .ty _, .base (.int _), kb "int" "bool" false, _, rfl, iteF ?_⟩
      refine ⟨_, rfl, _, _, rfl, rfl, _, rfl, ite3 (fun e => absurd (of_decide_eq_true e) (by omega)) (fun _ => ?_)⟩
      refine ⟨_, rfl, _, _, rfl, rfl, _, rfl, ite3 (fun e => absurd (of_decide_eq_true e) (by omega)) (fun _ => ?_)⟩
      exact ⟨s10 _ _ h9, fun b o e nb => s10 _ _ (fr9 _ _ (fr b o e nb) nb), _, _, rfl⟩
    · rintro σ H8 ⟨h8, fr, z1, z2, rfl⟩
      rw [List.length_map, hA.e] at h8
      have hd8 := fr _ _ hdu ndr
      refine ⟨_, rfl, _, rfl, _, _, .lst (SqL.of h8) (dp_ints _), .lst (SqL.of hd8) (dp_ints _), shaped_ints _, shaped_ints _, true, congrArg V.bl (SeqAt.eqv_refl _ (lay_ints _)), iteT ?_⟩
      have ax := atI_nat (at_map (ys := rs.set t x) (j := t) (by rw [List.length_set]; omega))
      rw [set_at (by omega)] at ax
      exact ⟨_, rfl, _, rfl, _, rfl, _, _, _, _, rfl, rfl, SqL.of h8, ax, _, _, .int x, rfl, .int _, .int _, trivial, fun H' _ => q _⟩
end

theorem all_mk {l : PySem.W.OpenLaw} {w : World} {K : PySem.W.Frag} {h : Heap} {mg : Str → Option Value} {fa : Addr} (X : K.In h) (G : h.Ns mainGlobals mg) (hfa : mg "law" = some (.ref fa))
    {C_AdaError : Addr} (aC_AdaError : PySem.W.nsIn K mainGlobals "AdaError" = some (some (.ref C_AdaError)))
    (x_AdaError : PySem.W.excIn K C_AdaError [.type "ValueError", .type "Exception", .type "BaseException", .type "object"] "ValueError.__new__" = true) (kC_AdaError : PySem.W.keepIn K (.ref C_AdaError) = true) (s1_AdaError : PySem.W.subIn K (.ref C_AdaError) (.type "BaseException") = some true) (ty_AdaError : PySem.W.typeIn K (.ref C_AdaError) = some (.type "type")) (ic_AdaError : PySem.W.isClsIn K C_AdaError = true)
    {C_ImageError : Addr} (aC_ImageError : PySem.W.nsIn K mainGlobals "ImageError" = some (some (.ref C_ImageError)))
    (x_ImageError : PySem.W.excIn K C_ImageError [.type "ValueError", .type "Exception", .type "BaseException", .type "object"] "ValueError.__new__" = true) (kC_ImageError : PySem.W.keepIn K (.ref C_ImageError) = true) (s1_ImageError : PySem.W.subIn K (.ref C_ImageError) (.type "BaseException") = some true) (ty_ImageError : PySem.W.typeIn K (.ref C_ImageError) = some (.type "type")) (ic_ImageError : PySem.W.isClsIn K C_ImageError = true)
    {f_is_short : Addr} {oc_is_short : Value} {od_is_short an_is_short : Option Addr} {sl_is_short : Array (Option Value)} {kV_is_short dc_is_short pm_is_short cd_is_short ct_is_short : Value}
    (a_is_short : PySem.W.nsIn K mainGlobals "is_short" = some (some (.ref f_is_short)))
    (l_is_short : K.lookup f_is_short = some ⟨oc_is_short, od_is_short, .func (PySem.W.fnOf "is_short" "is_short" (defArgs s_is_short) (defBody s_is_short) (defScope s_is_short) .none kV_is_short dc_is_short pm_is_short an_is_short cd_is_short ct_is_short), sl_is_short⟩)
    (c_is_short : PySem.W.codeIn K cd_is_short "is_short" = true)
    (k_is_short : PySem.W.keepIn K (.ref f_is_short) = true)
    {f_constant : Addr} {oc_constant : Value} {od_constant an_constant : Option Addr} {sl_constant : Array (Option Value)} {kV_constant dc_constant pm_constant cd_constant ct_constant : Value}
    (a_constant : PySem.W.nsIn K mainGlobals "constant" = some (some (.ref f_constant)))
    (l_constant : K.lookup f_constant = some ⟨oc_constant, od_constant, .func (PySem.W.fnOf "constant" "constant" (defArgs s_constant) (defBody s_constant) (defScope s_constant) .none kV_constant dc_constant pm_constant an_constant cd_constant ct_constant), sl_constant⟩)
    (c_constant : PySem.W.codeIn K cd_constant "constant" = true)
    (k_constant : PySem.W.keepIn K (.ref f_constant) = true)
    {f_encode : Addr} {oc_encode : Value} {od_encode an_encode : Option Addr} {sl_encode : Array (Option Value)} {kV_encode dc_encode pm_encode cd_encode ct_encode : Value}
    (a_encode : PySem.W.nsIn K mainGlobals "encode" = some (some (.ref f_encode)))
    (l_encode : K.lookup f_encode = some ⟨oc_encode, od_encode, .func (PySem.W.fnOf "encode" "encode" (defArgs s_encode) (defBody s_encode) (defScope s_encode) .none kV_encode dc_encode pm_encode an_encode cd_encode ct_encode), sl_encode⟩)
    (c_encode : PySem.W.codeIn K cd_encode "encode" = true)
    (k_encode : PySem.W.keepIn K (.ref f_encode) = true)
    {f_bits_of : Addr} {oc_bits_of : Value} {od_bits_of an_bits_of : Option Addr} {sl_bits_of : Array (Option Value)} {kV_bits_of dc_bits_of pm_bits_of cd_bits_of ct_bits_of : Value}
    (a_bits_of : PySem.W.nsIn K mainGlobals "_bits_of" = some (some (.ref f_bits_of)))
    (l_bits_of : K.lookup f_bits_of = some ⟨oc_bits_of, od_bits_of, .func (PySem.W.fnOf "_bits_of" "_bits_of" (defArgs s_bits_of) (defBody s_bits_of) (defScope s_bits_of) .none kV_bits_of dc_bits_of pm_bits_of an_bits_of cd_bits_of ct_bits_of), sl_bits_of⟩)
    (c_bits_of : PySem.W.codeIn K cd_bits_of "_bits_of" = true)
    (k_bits_of : PySem.W.keepIn K (.ref f_bits_of) = true)
    {f_law_mixed : Addr} {oc_law_mixed : Value} {od_law_mixed an_law_mixed : Option Addr} {sl_law_mixed : Array (Option Value)} {kV_law_mixed dc_law_mixed pm_law_mixed cd_law_mixed ct_law_mixed : Value}
    (a_law_mixed : PySem.W.nsIn K mainGlobals "_law_mixed" = some (some (.ref f_law_mixed)))
    (l_law_mixed : K.lookup f_law_mixed = some ⟨oc_law_mixed, od_law_mixed, .func (PySem.W.fnOf "_law_mixed" "_law_mixed" (defArgs s_law_mixed) (defBody s_law_mixed) (defScope s_law_mixed) .none kV_law_mixed dc_law_mixed pm_law_mixed an_law_mixed cd_law_mixed ct_law_mixed), sl_law_mixed⟩)
    (c_law_mixed : PySem.W.codeIn K cd_law_mixed "_law_mixed" = true)
    (k_law_mixed : PySem.W.keepIn K (.ref f_law_mixed) = true)
    {f_law_state : Addr} {oc_law_state : Value} {od_law_state an_law_state : Option Addr} {sl_law_state : Array (Option Value)} {kV_law_state dc_law_state pm_law_state cd_law_state ct_law_state : Value}
    (a_law_state : PySem.W.nsIn K mainGlobals "_law_state" = some (some (.ref f_law_state)))
    (l_law_state : K.lookup f_law_state = some ⟨oc_law_state, od_law_state, .func (PySem.W.fnOf "_law_state" "_law_state" (defArgs s_law_state) (defBody s_law_state) (defScope s_law_state) .none kV_law_state dc_law_state pm_law_state an_law_state cd_law_state ct_law_state), sl_law_state⟩)
    (c_law_state : PySem.W.codeIn K cd_law_state "_law_state" = true)
    (k_law_state : PySem.W.keepIn K (.ref f_law_state) = true)
    {f_law_draw : Addr} {oc_law_draw : Value} {od_law_draw an_law_draw : Option Addr} {sl_law_draw : Array (Option Value)} {kV_law_draw dc_law_draw pm_law_draw cd_law_draw ct_law_draw : Value}
    (a_law_draw : PySem.W.nsIn K mainGlobals "_law_draw" = some (some (.ref f_law_draw)))
    (l_law_draw : K.lookup f_law_draw = some ⟨oc_law_draw, od_law_draw, .func (PySem.W.fnOf "_law_draw" "_law_draw" (defArgs s_law_draw) (defBody s_law_draw) (defScope s_law_draw) .none kV_law_draw dc_law_draw pm_law_draw an_law_draw cd_law_draw ct_law_draw), sl_law_draw⟩)
    (c_law_draw : PySem.W.codeIn K cd_law_draw "_law_draw" = true)
    (k_law_draw : PySem.W.keepIn K (.ref f_law_draw) = true)
    {f_law_same : Addr} {oc_law_same : Value} {od_law_same an_law_same : Option Addr} {sl_law_same : Array (Option Value)} {kV_law_same dc_law_same pm_law_same cd_law_same ct_law_same : Value}
    (a_law_same : PySem.W.nsIn K mainGlobals "_law_same" = some (some (.ref f_law_same)))
    (l_law_same : K.lookup f_law_same = some ⟨oc_law_same, od_law_same, .func (PySem.W.fnOf "_law_same" "_law_same" (defArgs s_law_same) (defBody s_law_same) (defScope s_law_same) .none kV_law_same dc_law_same pm_law_same an_law_same cd_law_same ct_law_same), sl_law_same⟩)
    (c_law_same : PySem.W.codeIn K cd_law_same "_law_same" = true)
    (k_law_same : PySem.W.keepIn K (.ref f_law_same) = true)
    {f_law_word : Addr} {oc_law_word : Value} {od_law_word an_law_word : Option Addr} {sl_law_word : Array (Option Value)} {kV_law_word dc_law_word pm_law_word cd_law_word ct_law_word : Value}
    (a_law_word : PySem.W.nsIn K mainGlobals "_law_word" = some (some (.ref f_law_word)))
    (l_law_word : K.lookup f_law_word = some ⟨oc_law_word, od_law_word, .func (PySem.W.fnOf "_law_word" "_law_word" (defArgs s_law_word) (defBody s_law_word) (defScope s_law_word) .none kV_law_word dc_law_word pm_law_word an_law_word cd_law_word ct_law_word), sl_law_word⟩)
    (c_law_word : PySem.W.codeIn K cd_law_word "_law_word" = true)
    (k_law_word : PySem.W.keepIn K (.ref f_law_word) = true)
    {f_law_done : Addr} {oc_law_done : Value} {od_law_done an_law_done : Option Addr} {sl_law_done : Array (Option Value)} {kV_law_done dc_law_done pm_law_done cd_law_done ct_law_done : Value}
    (a_law_done : PySem.W.nsIn K mainGlobals "_law_done" = some (some (.ref f_law_done)))
    (l_law_done : K.lookup f_law_done = some ⟨oc_law_done, od_law_done, .func (PySem.W.fnOf "_law_done" "_law_done" (defArgs s_law_done) (defBody s_law_done) (defScope s_law_done) .none kV_law_done dc_law_done pm_law_done an_law_done cd_law_done ct_law_done), sl_law_done⟩)
    (c_law_done : PySem.W.codeIn K cd_law_done "_law_done" = true)
    (k_law_done : PySem.W.keepIn K (.ref f_law_done) = true)
    {f_law : Addr} {oc_law : Value} {od_law an_law : Option Addr} {sl_law : Array (Option Value)} {kV_law dc_law pm_law cd_law ct_law : Value}
    (a_law : PySem.W.nsIn K mainGlobals "law" = some (some (.ref f_law)))
    (l_law : K.lookup f_law = some ⟨oc_law, od_law, .func (PySem.W.fnOf "law" "law" (defArgs s_law) (defBody s_law) (defScope s_law) .none kV_law dc_law pm_law an_law cd_law ct_law), sl_law⟩)
    (c_law : PySem.W.codeIn K cd_law "law" = true)
    (k_law : PySem.W.keepIn K (.ref f_law) = true)
    {c_FIELDS : Addr} {es_FIELDS : Array DictEntry} {n_FIELDS : Nat} (a_FIELDS : PySem.W.nsIn K mainGlobals "FIELDS" = some (some (.ref c_FIELDS))) (l_FIELDS : K.lookup c_FIELDS = some ⟨.type "dict", none, .dict es_FIELDS n_FIELDS, #[]⟩) (lit_FIELDS : PySem.W.KeysLit w.params es_FIELDS.toList)
    {c_FIELDS_d : Addr} {o_FIELDS_d : Obj} (v_FIELDS_d : PySem.W.nsIn K c_FIELDS "d" = some (some (.ref c_FIELDS_d))) (l_FIELDS_d : K.lookup c_FIELDS_d = some o_FIELDS_d) (q_FIELDS_d : IsTupOf o_FIELDS_d [.int (21), .int (5), .int (0), .int (31)])
    {c_FIELDS_a : Addr} {o_FIELDS_a : Obj} (v_FIELDS_a : PySem.W.nsIn K c_FIELDS "a" = some (some (.ref c_FIELDS_a))) (l_FIELDS_a : K.lookup c_FIELDS_a = some o_FIELDS_a) (q_FIELDS_a : IsTupOf o_FIELDS_a [.int (16), .int (5), .int (0), .int (31)])
    {c_FIELDS_reg : Addr} {o_FIELDS_reg : Obj} (v_FIELDS_reg : PySem.W.nsIn K c_FIELDS "reg" = some (some (.ref c_FIELDS_reg))) (l_FIELDS_reg : K.lookup c_FIELDS_reg = some o_FIELDS_reg) (q_FIELDS_reg : IsTupOf o_FIELDS_reg [.int (0), .int (15), .int (0), .int (31)])
    {c_FIELDS_int : Addr} {o_FIELDS_int : Obj} (v_FIELDS_int : PySem.W.nsIn K c_FIELDS "int" = some (some (.ref c_FIELDS_int))) (l_FIELDS_int : K.lookup c_FIELDS_int = some o_FIELDS_int) (q_FIELDS_int : IsTupOf o_FIELDS_int [.int (0), .int (15), .int (-16384), .int (16383)])
    {c_FIELDS_part : Addr} {o_FIELDS_part : Obj} (v_FIELDS_part : PySem.W.nsIn K c_FIELDS "part" = some (some (.ref c_FIELDS_part))) (l_FIELDS_part : K.lookup c_FIELDS_part = some o_FIELDS_part) (q_FIELDS_part : IsTupOf o_FIELDS_part [.int (0), .int (15), .int (0), .int (2047)])
    {c_FIELDS_far : Addr} {o_FIELDS_far : Obj} (v_FIELDS_far : PySem.W.nsIn K c_FIELDS "far" = some (some (.ref c_FIELDS_far))) (l_FIELDS_far : K.lookup c_FIELDS_far = some o_FIELDS_far) (q_FIELDS_far : IsTupOf o_FIELDS_far [.int (0), .int (21), .int (-1048576), .int (1048575)])
    {c_FIELDS_distance : Addr} {o_FIELDS_distance : Obj} (v_FIELDS_distance : PySem.W.nsIn K c_FIELDS "distance" = some (some (.ref c_FIELDS_distance))) (l_FIELDS_distance : K.lookup c_FIELDS_distance = some o_FIELDS_distance) (q_FIELDS_distance : IsTupOf o_FIELDS_distance [.int (0), .int (26), .int (-33554432), .int (33554431)])
    {c_FIELDS_number : Addr} {o_FIELDS_number : Obj} (v_FIELDS_number : PySem.W.nsIn K c_FIELDS "number" = some (some (.ref c_FIELDS_number))) (l_FIELDS_number : K.lookup c_FIELDS_number = some o_FIELDS_number) (q_FIELDS_number : IsTupOf o_FIELDS_number [.int (0), .int (26), .int (0), .int (67108863)])
    {t_FLAG : Tok} (a_FLAG : PySem.W.nsIn K mainGlobals "FLAG" = some (some (.int (32768) t_FLAG)))
    {c_FORMS : Addr} {es_FORMS : Array DictEntry} {n_FORMS : Nat} (a_FORMS : PySem.W.nsIn K mainGlobals "FORMS" = some (some (.ref c_FORMS))) (l_FORMS : K.lookup c_FORMS = some ⟨.type "dict", none, .dict es_FORMS n_FORMS, #[]⟩) (lit_FORMS : PySem.W.KeysLit w.params es_FORMS.toList)
    {c_FORMS_halt : Addr} {o_FORMS_halt : Obj} (v_FORMS_halt : PySem.W.nsIn K c_FORMS "halt" = some (some (.ref c_FORMS_halt))) (l_FORMS_halt : K.lookup c_FORMS_halt = some o_FORMS_halt) (q_FORMS_halt : IsTupOf o_FORMS_halt [])
    {c_FORMS_add : Addr} {o_FORMS_add : Obj} (v_FORMS_add : PySem.W.nsIn K c_FORMS "add" = some (some (.ref c_FORMS_add))) (l_FORMS_add : K.lookup c_FORMS_add = some o_FORMS_add) (q_FORMS_add : IsTupOf o_FORMS_add [.str "d", .str "a", .str "source"])
    {c_FORMS_sub : Addr} {o_FORMS_sub : Obj} (v_FORMS_sub : PySem.W.nsIn K c_FORMS "sub" = some (some (.ref c_FORMS_sub))) (l_FORMS_sub : K.lookup c_FORMS_sub = some o_FORMS_sub) (q_FORMS_sub : IsTupOf o_FORMS_sub [.str "d", .str "a", .str "source"])
    {c_FORMS_mul : Addr} {o_FORMS_mul : Obj} (v_FORMS_mul : PySem.W.nsIn K c_FORMS "mul" = some (some (.ref c_FORMS_mul))) (l_FORMS_mul : K.lookup c_FORMS_mul = some o_FORMS_mul) (q_FORMS_mul : IsTupOf o_FORMS_mul [.str "d", .str "a", .str "source"])
    {c_FORMS_div : Addr} {o_FORMS_div : Obj} (v_FORMS_div : PySem.W.nsIn K c_FORMS "div" = some (some (.ref c_FORMS_div))) (l_FORMS_div : K.lookup c_FORMS_div = some o_FORMS_div) (q_FORMS_div : IsTupOf o_FORMS_div [.str "d", .str "a", .str "source"])
    {c_FORMS_mod : Addr} {o_FORMS_mod : Obj} (v_FORMS_mod : PySem.W.nsIn K c_FORMS "mod" = some (some (.ref c_FORMS_mod))) (l_FORMS_mod : K.lookup c_FORMS_mod = some o_FORMS_mod) (q_FORMS_mod : IsTupOf o_FORMS_mod [.str "d", .str "a", .str "source"])
    {c_FORMS_rem : Addr} {o_FORMS_rem : Obj} (v_FORMS_rem : PySem.W.nsIn K c_FORMS "rem" = some (some (.ref c_FORMS_rem))) (l_FORMS_rem : K.lookup c_FORMS_rem = some o_FORMS_rem) (q_FORMS_rem : IsTupOf o_FORMS_rem [.str "d", .str "a", .str "source"])
    {c_FORMS_less : Addr} {o_FORMS_less : Obj} (v_FORMS_less : PySem.W.nsIn K c_FORMS "less" = some (some (.ref c_FORMS_less))) (l_FORMS_less : K.lookup c_FORMS_less = some o_FORMS_less) (q_FORMS_less : IsTupOf o_FORMS_less [.str "d", .str "a", .str "source"])
    {c_FORMS_equal : Addr} {o_FORMS_equal : Obj} (v_FORMS_equal : PySem.W.nsIn K c_FORMS "equal" = some (some (.ref c_FORMS_equal))) (l_FORMS_equal : K.lookup c_FORMS_equal = some o_FORMS_equal) (q_FORMS_equal : IsTupOf o_FORMS_equal [.str "d", .str "a", .str "source"])
    {c_FORMS_high : Addr} {o_FORMS_high : Obj} (v_FORMS_high : PySem.W.nsIn K c_FORMS "high" = some (some (.ref c_FORMS_high))) (l_FORMS_high : K.lookup c_FORMS_high = some o_FORMS_high) (q_FORMS_high : IsTupOf o_FORMS_high [.str "d", .str "far"])
    {c_FORMS_low : Addr} {o_FORMS_low : Obj} (v_FORMS_low : PySem.W.nsIn K c_FORMS "low" = some (some (.ref c_FORMS_low))) (l_FORMS_low : K.lookup c_FORMS_low = some o_FORMS_low) (q_FORMS_low : IsTupOf o_FORMS_low [.str "d", .str "a", .str "part"])
    {c_FORMS_load : Addr} {o_FORMS_load : Obj} (v_FORMS_load : PySem.W.nsIn K c_FORMS "load" = some (some (.ref c_FORMS_load))) (l_FORMS_load : K.lookup c_FORMS_load = some o_FORMS_load) (q_FORMS_load : IsTupOf o_FORMS_load [.str "d", .str "a", .str "source"])
    {c_FORMS_store : Addr} {o_FORMS_store : Obj} (v_FORMS_store : PySem.W.nsIn K c_FORMS "store" = some (some (.ref c_FORMS_store))) (l_FORMS_store : K.lookup c_FORMS_store = some o_FORMS_store) (q_FORMS_store : IsTupOf o_FORMS_store [.str "d", .str "a", .str "source"])
    {c_FORMS_jump : Addr} {o_FORMS_jump : Obj} (v_FORMS_jump : PySem.W.nsIn K c_FORMS "jump" = some (some (.ref c_FORMS_jump))) (l_FORMS_jump : K.lookup c_FORMS_jump = some o_FORMS_jump) (q_FORMS_jump : IsTupOf o_FORMS_jump [.str "distance"])
    {c_FORMS_branch : Addr} {o_FORMS_branch : Obj} (v_FORMS_branch : PySem.W.nsIn K c_FORMS "branch" = some (some (.ref c_FORMS_branch))) (l_FORMS_branch : K.lookup c_FORMS_branch = some o_FORMS_branch) (q_FORMS_branch : IsTupOf o_FORMS_branch [.str "d", .str "far"])
    {c_FORMS_call : Addr} {o_FORMS_call : Obj} (v_FORMS_call : PySem.W.nsIn K c_FORMS "call" = some (some (.ref c_FORMS_call))) (l_FORMS_call : K.lookup c_FORMS_call = some o_FORMS_call) (q_FORMS_call : IsTupOf o_FORMS_call [.str "number"])
    {c_FORMS_save : Addr} {o_FORMS_save : Obj} (v_FORMS_save : PySem.W.nsIn K c_FORMS "save" = some (some (.ref c_FORMS_save))) (l_FORMS_save : K.lookup c_FORMS_save = some o_FORMS_save) (q_FORMS_save : IsTupOf o_FORMS_save [.str "d", .str "a", .str "source"])
    {c_FORMS_restore : Addr} {o_FORMS_restore : Obj} (v_FORMS_restore : PySem.W.nsIn K c_FORMS "restore" = some (some (.ref c_FORMS_restore))) (l_FORMS_restore : K.lookup c_FORMS_restore = some o_FORMS_restore) (q_FORMS_restore : IsTupOf o_FORMS_restore [])
    {c_FORMS_back : Addr} {o_FORMS_back : Obj} (v_FORMS_back : PySem.W.nsIn K c_FORMS "back" = some (some (.ref c_FORMS_back))) (l_FORMS_back : K.lookup c_FORMS_back = some o_FORMS_back) (q_FORMS_back : IsTupOf o_FORMS_back [])
    {c_FORMS_raise : Addr} {o_FORMS_raise : Obj} (v_FORMS_raise : PySem.W.nsIn K c_FORMS "raise" = some (some (.ref c_FORMS_raise))) (l_FORMS_raise : K.lookup c_FORMS_raise = some o_FORMS_raise) (q_FORMS_raise : IsTupOf o_FORMS_raise [.str "number"])
    {c_FORMS_again : Addr} {o_FORMS_again : Obj} (v_FORMS_again : PySem.W.nsIn K c_FORMS "again" = some (some (.ref c_FORMS_again))) (l_FORMS_again : K.lookup c_FORMS_again = some o_FORMS_again) (q_FORMS_again : IsTupOf o_FORMS_again [.str "a", .str "source"])
    {c_FORMS_tick : Addr} {o_FORMS_tick : Obj} (v_FORMS_tick : PySem.W.nsIn K c_FORMS "tick" = some (some (.ref c_FORMS_tick))) (l_FORMS_tick : K.lookup c_FORMS_tick = some o_FORMS_tick) (q_FORMS_tick : IsTupOf o_FORMS_tick [])
    {c_FORMS_put : Addr} {o_FORMS_put : Obj} (v_FORMS_put : PySem.W.nsIn K c_FORMS "put" = some (some (.ref c_FORMS_put))) (l_FORMS_put : K.lookup c_FORMS_put = some o_FORMS_put) (q_FORMS_put : IsTupOf o_FORMS_put [.str "source"])
    {c_FORMS_get : Addr} {o_FORMS_get : Obj} (v_FORMS_get : PySem.W.nsIn K c_FORMS "get" = some (some (.ref c_FORMS_get))) (l_FORMS_get : K.lookup c_FORMS_get = some o_FORMS_get) (q_FORMS_get : IsTupOf o_FORMS_get [.str "d"])
    {c_FORMS_below : Addr} {o_FORMS_below : Obj} (v_FORMS_below : PySem.W.nsIn K c_FORMS "below" = some (some (.ref c_FORMS_below))) (l_FORMS_below : K.lookup c_FORMS_below = some o_FORMS_below) (q_FORMS_below : IsTupOf o_FORMS_below [.str "a", .str "source"])
    {c_FORMS_above : Addr} {o_FORMS_above : Obj} (v_FORMS_above : PySem.W.nsIn K c_FORMS "above" = some (some (.ref c_FORMS_above))) (l_FORMS_above : K.lookup c_FORMS_above = some o_FORMS_above) (q_FORMS_above : IsTupOf o_FORMS_above [.str "a", .str "source"])
    {c_FORMS_bar : Addr} {o_FORMS_bar : Obj} (v_FORMS_bar : PySem.W.nsIn K c_FORMS "bar" = some (some (.ref c_FORMS_bar))) (l_FORMS_bar : K.lookup c_FORMS_bar = some o_FORMS_bar) (q_FORMS_bar : IsTupOf o_FORMS_bar [.str "d"])
    {c_FORMS_setbar : Addr} {o_FORMS_setbar : Obj} (v_FORMS_setbar : PySem.W.nsIn K c_FORMS "setbar" = some (some (.ref c_FORMS_setbar))) (l_FORMS_setbar : K.lookup c_FORMS_setbar = some o_FORMS_setbar) (q_FORMS_setbar : IsTupOf o_FORMS_setbar [.str "source"])
    {c_FORMS_retry : Addr} {o_FORMS_retry : Obj} (v_FORMS_retry : PySem.W.nsIn K c_FORMS "retry" = some (some (.ref c_FORMS_retry))) (l_FORMS_retry : K.lookup c_FORMS_retry = some o_FORMS_retry) (q_FORMS_retry : IsTupOf o_FORMS_retry [])
    {c_NAMES : Addr} {o_NAMES : Obj} (a_NAMES : PySem.W.nsIn K mainGlobals "NAMES" = some (some (.ref c_NAMES))) (l_NAMES : K.lookup c_NAMES = some o_NAMES) (q_NAMES : IsTupOf o_NAMES [.str "halt", .str "add", .str "sub", .str "mul", .str "div", .str "mod", .str "rem", .str "less", .str "equal", .str "high", .str "low", .str "load", .str "store", .str "jump", .str "branch", .str "call", .str "save", .str "restore", .str "back", .str "raise", .str "again", .str "tick", .str "put", .str "get", .str "below", .str "above", .str "bar", .str "setbar", .str "retry"])
    (dn_NAMES : o_NAMES.dict = none)
    {t_NAME_SHIFT : Tok} (a_NAME_SHIFT : PySem.W.nsIn K mainGlobals "NAME_SHIFT" = some (some (.int (26) t_NAME_SHIFT)))
    {t_PART : Tok} (a_PART : PySem.W.nsIn K mainGlobals "PART" = some (some (.int (2048) t_PART)))
    (z_abs : PySem.W.nsIn K mainGlobals "abs" = some none)
    (z_all : PySem.W.nsIn K mainGlobals "all" = some none)
    (z_bool : PySem.W.nsIn K mainGlobals "bool" = some none)
    (z_int : PySem.W.nsIn K mainGlobals "int" = some none)
    (z_isinstance : PySem.W.nsIn K mainGlobals "isinstance" = some none)
    (z_len : PySem.W.nsIn K mainGlobals "len" = some none)
    (z_list : PySem.W.nsIn K mainGlobals "list" = some none)
    (z_max : PySem.W.nsIn K mainGlobals "max" = some none)
    (z_min : PySem.W.nsIn K mainGlobals "min" = some none)
    (z_range : PySem.W.nsIn K mainGlobals "range" = some none)
    (z_str : PySem.W.nsIn K mainGlobals "str" = some none)
    (z_sum : PySem.W.nsIn K mainGlobals "sum" = some none)
    (z_tuple : PySem.W.nsIn K mainGlobals "tuple" = some none)
    (z_zip : PySem.W.nsIn K mainGlobals "zip" = some none) :
    ∃ fd : FuncData, (∀ (s : Shared) (v : Value), BindsTo s fd ⟨[v], []⟩ [("script", v)]) ∧ ∀ base : Heap, K.In base → base.Ns mainGlobals mg → FnOk l.prog w K mg base CX0 9 fa fd ["script"] (spLaw K) := by
  have e := hfa.symm.trans (PySem.W.mg_of X G a_law)
  cases e
  let a : Ad := { f_is_short := f_is_short, d_is_short := PySem.W.fnOf "is_short" "is_short" (defArgs s_is_short) (defBody s_is_short) (defScope s_is_short) .none kV_is_short dc_is_short pm_is_short an_is_short cd_is_short ct_is_short, f_constant := f_constant, d_constant := PySem.W.fnOf "constant" "constant" (defArgs s_constant) (defBody s_constant) (defScope s_constant) .none kV_constant dc_constant pm_constant an_constant cd_constant ct_constant, f_encode := f_encode, d_encode := PySem.W.fnOf "encode" "encode" (defArgs s_encode) (defBody s_encode) (defScope s_encode) .none kV_encode dc_encode pm_encode an_encode cd_encode ct_encode, f_bits_of := f_bits_of, d_bits_of := PySem.W.fnOf "_bits_of" "_bits_of" (defArgs s_bits_of) (defBody s_bits_of) (defScope s_bits_of) .none kV_bits_of dc_bits_of pm_bits_of an_bits_of cd_bits_of ct_bits_of, f_law_mixed := f_law_mixed, d_law_mixed := PySem.W.fnOf "_law_mixed" "_law_mixed" (defArgs s_law_mixed) (defBody s_law_mixed) (defScope s_law_mixed) .none kV_law_mixed dc_law_mixed pm_law_mixed an_law_mixed cd_law_mixed ct_law_mixed, f_law_state := f_law_state, d_law_state := PySem.W.fnOf "_law_state" "_law_state" (defArgs s_law_state) (defBody s_law_state) (defScope s_law_state) .none kV_law_state dc_law_state pm_law_state an_law_state cd_law_state ct_law_state, f_law_draw := f_law_draw, d_law_draw := PySem.W.fnOf "_law_draw" "_law_draw" (defArgs s_law_draw) (defBody s_law_draw) (defScope s_law_draw) .none kV_law_draw dc_law_draw pm_law_draw an_law_draw cd_law_draw ct_law_draw, f_law_same := f_law_same, d_law_same := PySem.W.fnOf "_law_same" "_law_same" (defArgs s_law_same) (defBody s_law_same) (defScope s_law_same) .none kV_law_same dc_law_same pm_law_same an_law_same cd_law_same ct_law_same, f_law_word := f_law_word, d_law_word := PySem.W.fnOf "_law_word" "_law_word" (defArgs s_law_word) (defBody s_law_word) (defScope s_law_word) .none kV_law_word dc_law_word pm_law_word an_law_word cd_law_word ct_law_word, f_law_done := f_law_done, d_law_done := PySem.W.fnOf "_law_done" "_law_done" (defArgs s_law_done) (defBody s_law_done) (defScope s_law_done) .none kV_law_done dc_law_done pm_law_done an_law_done cd_law_done ct_law_done, f_law := fa, d_law := PySem.W.fnOf "law" "law" (defArgs s_law) (defBody s_law) (defScope s_law) .none kV_law dc_law pm_law an_law cd_law ct_law, c_FIELDS := c_FIELDS, c_FIELDS_d := c_FIELDS_d, c_FIELDS_a := c_FIELDS_a, c_FIELDS_reg := c_FIELDS_reg, c_FIELDS_int := c_FIELDS_int, c_FIELDS_part := c_FIELDS_part, c_FIELDS_far := c_FIELDS_far, c_FIELDS_distance := c_FIELDS_distance, c_FIELDS_number := c_FIELDS_number, t_FLAG := t_FLAG, c_FORMS := c_FORMS, c_FORMS_halt := c_FORMS_halt, c_FORMS_add := c_FORMS_add, c_FORMS_sub := c_FORMS_sub, c_FORMS_mul := c_FORMS_mul, c_FORMS_div := c_FORMS_div, c_FORMS_mod := c_FORMS_mod, c_FORMS_rem := c_FORMS_rem, c_FORMS_less := c_FORMS_less, c_FORMS_equal := c_FORMS_equal, c_FORMS_high := c_FORMS_high, c_FORMS_low := c_FORMS_low, c_FORMS_load := c_FORMS_load, c_FORMS_store := c_FORMS_store, c_FORMS_jump := c_FORMS_jump, c_FORMS_branch := c_FORMS_branch, c_FORMS_call := c_FORMS_call, c_FORMS_save := c_FORMS_save, c_FORMS_restore := c_FORMS_restore, c_FORMS_back := c_FORMS_back, c_FORMS_raise := c_FORMS_raise, c_FORMS_again := c_FORMS_again, c_FORMS_tick := c_FORMS_tick, c_FORMS_put := c_FORMS_put, c_FORMS_get := c_FORMS_get, c_FORMS_below := c_FORMS_below, c_FORMS_above := c_FORMS_above, c_FORMS_bar := c_FORMS_bar, c_FORMS_setbar := c_FORMS_setbar, c_FORMS_retry := c_FORMS_retry, c_NAMES := c_NAMES, t_NAME_SHIFT := t_NAME_SHIFT, t_PART := t_PART, C_AdaError := C_AdaError, C_ImageError := C_ImageError }
  have T : Txt w K mg a := {
    g_is_short := PySem.W.mg_of X G a_is_short,
    F_is_short := fun_mk (st := s_is_short) l_is_short c_is_short k_is_short,
    k_is_short := k_is_short,
    bd_is_short := (fun_mk (st := s_is_short) l_is_short c_is_short k_is_short).binds (ps := ["word"]) fun _ _ _ _ _ _ us hl => match us, hl with | [_], _ => rfl,
    g_constant := PySem.W.mg_of X G a_constant,
    F_constant := fun_mk (st := s_constant) l_constant c_constant k_constant,
    k_constant := k_constant,
    bd_constant := (fun_mk (st := s_constant) l_constant c_constant k_constant).binds (ps := ["target", "word"]) fun _ _ _ _ _ _ us hl => match us, hl with | [_, _], _ => rfl,
    g_encode := PySem.W.mg_of X G a_encode,
    F_encode := fun_mk (st := s_encode) l_encode c_encode k_encode,
    k_encode := k_encode,
    bd_encode := (fun_mk (st := s_encode) l_encode c_encode k_encode).binds (ps := ["instruction"]) fun _ _ _ _ _ _ us hl => match us, hl with | [_], _ => rfl,
    g__bits_of := PySem.W.mg_of X G a_bits_of,
    F__bits_of := fun_mk (st := s_bits_of) l_bits_of c_bits_of k_bits_of,
    k__bits_of := k_bits_of,
    bd__bits_of := (fun_mk (st := s_bits_of) l_bits_of c_bits_of k_bits_of).binds (ps := ["field", "part"]) fun _ _ _ _ _ _ us hl => match us, hl with | [_, _], _ => rfl,
    g__law_mixed := PySem.W.mg_of X G a_law_mixed,
    F__law_mixed := fun_mk (st := s_law_mixed) l_law_mixed c_law_mixed k_law_mixed,
    k__law_mixed := k_law_mixed,
    bd__law_mixed := (fun_mk (st := s_law_mixed) l_law_mixed c_law_mixed k_law_mixed).binds (ps := ["number", "count"]) fun _ _ _ _ _ _ us hl => match us, hl with | [_, _], _ => rfl,
    g__law_state := PySem.W.mg_of X G a_law_state,
    F__law_state := fun_mk (st := s_law_state) l_law_state c_law_state k_law_state,
    k__law_state := k_law_state,
    bd__law_state := (fun_mk (st := s_law_state) l_law_state c_law_state k_law_state).binds (ps := ["script", "budget"]) fun _ _ _ _ _ _ us hl => match us, hl with | [_, _], _ => rfl,
    g__law_draw := PySem.W.mg_of X G a_law_draw,
    F__law_draw := fun_mk (st := s_law_draw) l_law_draw c_law_draw k_law_draw,
    k__law_draw := k_law_draw,
    bd__law_draw := (fun_mk (st := s_law_draw) l_law_draw c_law_draw k_law_draw).binds (ps := ["state", "many"]) fun _ _ _ _ _ _ us hl => match us, hl with | [_, _], _ => rfl,
    g__law_same := PySem.W.mg_of X G a_law_same,
    F__law_same := fun_mk (st := s_law_same) l_law_same c_law_same k_law_same,
    k__law_same := k_law_same,
    bd__law_same := (fun_mk (st := s_law_same) l_law_same c_law_same k_law_same).binds (ps := ["actual", "due"]) fun _ _ _ _ _ _ us hl => match us, hl with | [_, _], _ => rfl,
    g__law_word := PySem.W.mg_of X G a_law_word,
    F__law_word := fun_mk (st := s_law_word) l_law_word c_law_word k_law_word,
    k__law_word := k_law_word,
    bd__law_word := (fun_mk (st := s_law_word) l_law_word c_law_word k_law_word).binds (ps := ["state"]) fun _ _ _ _ _ _ us hl => match us, hl with | [_], _ => rfl,
    g__law_done := PySem.W.mg_of X G a_law_done,
    F__law_done := fun_mk (st := s_law_done) l_law_done c_law_done k_law_done,
    k__law_done := k_law_done,
    bd__law_done := (fun_mk (st := s_law_done) l_law_done c_law_done k_law_done).binds (ps := ["registers", "instruction"]) fun _ _ _ _ _ _ us hl => match us, hl with | [_, _], _ => rfl,
    g_law := PySem.W.mg_of X G a_law,
    F_law := fun_mk (st := s_law) l_law c_law k_law,
    k_law := k_law,
    bd_law := (fun_mk (st := s_law) l_law c_law k_law).binds (ps := ["script"]) fun _ _ _ _ _ _ us hl => match us, hl with | [_], _ => rfl,
    g_FIELDS := PySem.W.mg_of X G a_FIELDS,
    kd_FIELDS_d := ⟨_, _, _, l_FIELDS, lit_FIELDS, v_FIELDS_d, rfl⟩,
    q_FIELDS_d := fun H => sqT_of l_FIELDS_d q_FIELDS_d,
    kd_FIELDS_a := ⟨_, _, _, l_FIELDS, lit_FIELDS, v_FIELDS_a, rfl⟩,
    q_FIELDS_a := fun H => sqT_of l_FIELDS_a q_FIELDS_a,
    kd_FIELDS_reg := ⟨_, _, _, l_FIELDS, lit_FIELDS, v_FIELDS_reg, rfl⟩,
    q_FIELDS_reg := fun H => sqT_of l_FIELDS_reg q_FIELDS_reg,
    kd_FIELDS_int := ⟨_, _, _, l_FIELDS, lit_FIELDS, v_FIELDS_int, rfl⟩,
    q_FIELDS_int := fun H => sqT_of l_FIELDS_int q_FIELDS_int,
    kd_FIELDS_part := ⟨_, _, _, l_FIELDS, lit_FIELDS, v_FIELDS_part, rfl⟩,
    q_FIELDS_part := fun H => sqT_of l_FIELDS_part q_FIELDS_part,
    kd_FIELDS_far := ⟨_, _, _, l_FIELDS, lit_FIELDS, v_FIELDS_far, rfl⟩,
    q_FIELDS_far := fun H => sqT_of l_FIELDS_far q_FIELDS_far,
    kd_FIELDS_distance := ⟨_, _, _, l_FIELDS, lit_FIELDS, v_FIELDS_distance, rfl⟩,
    q_FIELDS_distance := fun H => sqT_of l_FIELDS_distance q_FIELDS_distance,
    kd_FIELDS_number := ⟨_, _, _, l_FIELDS, lit_FIELDS, v_FIELDS_number, rfl⟩,
    q_FIELDS_number := fun H => sqT_of l_FIELDS_number q_FIELDS_number,
    g_FLAG := PySem.W.mg_of X G a_FLAG,
    g_FORMS := PySem.W.mg_of X G a_FORMS,
    kd_FORMS_halt := ⟨_, _, _, l_FORMS, lit_FORMS, v_FORMS_halt, rfl⟩,
    q_FORMS_halt := fun H => sqT_of l_FORMS_halt q_FORMS_halt,
    kd_FORMS_add := ⟨_, _, _, l_FORMS, lit_FORMS, v_FORMS_add, rfl⟩,
    q_FORMS_add := fun H => sqT_of l_FORMS_add q_FORMS_add,
    kd_FORMS_sub := ⟨_, _, _, l_FORMS, lit_FORMS, v_FORMS_sub, rfl⟩,
    q_FORMS_sub := fun H => sqT_of l_FORMS_sub q_FORMS_sub,
    kd_FORMS_mul := ⟨_, _, _, l_FORMS, lit_FORMS, v_FORMS_mul, rfl⟩,
    q_FORMS_mul := fun H => sqT_of l_FORMS_mul q_FORMS_mul,
    kd_FORMS_div := ⟨_, _, _, l_FORMS, lit_FORMS, v_FORMS_div, rfl⟩,
    q_FORMS_div := fun H => sqT_of l_FORMS_div q_FORMS_div,
    kd_FORMS_mod := ⟨_, _, _, l_FORMS, lit_FORMS, v_FORMS_mod, rfl⟩,
    q_FORMS_mod := fun H => sqT_of l_FORMS_mod q_FORMS_mod,
    kd_FORMS_rem := ⟨_, _, _, l_FORMS, lit_FORMS, v_FORMS_rem, rfl⟩,
    q_FORMS_rem := fun H => sqT_of l_FORMS_rem q_FORMS_rem,
    kd_FORMS_less := ⟨_, _, _, l_FORMS, lit_FORMS, v_FORMS_less, rfl⟩,
    q_FORMS_less := fun H => sqT_of l_FORMS_less q_FORMS_less,
    kd_FORMS_equal := ⟨_, _, _, l_FORMS, lit_FORMS, v_FORMS_equal, rfl⟩,
    q_FORMS_equal := fun H => sqT_of l_FORMS_equal q_FORMS_equal,
    kd_FORMS_high := ⟨_, _, _, l_FORMS, lit_FORMS, v_FORMS_high, rfl⟩,
    q_FORMS_high := fun H => sqT_of l_FORMS_high q_FORMS_high,
    kd_FORMS_low := ⟨_, _, _, l_FORMS, lit_FORMS, v_FORMS_low, rfl⟩,
    q_FORMS_low := fun H => sqT_of l_FORMS_low q_FORMS_low,
    kd_FORMS_load := ⟨_, _, _, l_FORMS, lit_FORMS, v_FORMS_load, rfl⟩,
    q_FORMS_load := fun H => sqT_of l_FORMS_load q_FORMS_load,
    kd_FORMS_store := ⟨_, _, _, l_FORMS, lit_FORMS, v_FORMS_store, rfl⟩,
    q_FORMS_store := fun H => sqT_of l_FORMS_store q_FORMS_store,
    kd_FORMS_jump := ⟨_, _, _, l_FORMS, lit_FORMS, v_FORMS_jump, rfl⟩,
    q_FORMS_jump := fun H => sqT_of l_FORMS_jump q_FORMS_jump,
    kd_FORMS_branch := ⟨_, _, _, l_FORMS, lit_FORMS, v_FORMS_branch, rfl⟩,
    q_FORMS_branch := fun H => sqT_of l_FORMS_branch q_FORMS_branch,
    kd_FORMS_call := ⟨_, _, _, l_FORMS, lit_FORMS, v_FORMS_call, rfl⟩,
    q_FORMS_call := fun H => sqT_of l_FORMS_call q_FORMS_call,
    kd_FORMS_save := ⟨_, _, _, l_FORMS, lit_FORMS, v_FORMS_save, rfl⟩,
    q_FORMS_save := fun H => sqT_of l_FORMS_save q_FORMS_save,
    kd_FORMS_restore := ⟨_, _, _, l_FORMS, lit_FORMS, v_FORMS_restore, rfl⟩,
    q_FORMS_restore := fun H => sqT_of l_FORMS_restore q_FORMS_restore,
    kd_FORMS_back := ⟨_, _, _, l_FORMS, lit_FORMS, v_FORMS_back, rfl⟩,
    q_FORMS_back := fun H => sqT_of l_FORMS_back q_FORMS_back,
    kd_FORMS_raise := ⟨_, _, _, l_FORMS, lit_FORMS, v_FORMS_raise, rfl⟩,
    q_FORMS_raise := fun H => sqT_of l_FORMS_raise q_FORMS_raise,
    kd_FORMS_again := ⟨_, _, _, l_FORMS, lit_FORMS, v_FORMS_again, rfl⟩,
    q_FORMS_again := fun H => sqT_of l_FORMS_again q_FORMS_again,
    kd_FORMS_tick := ⟨_, _, _, l_FORMS, lit_FORMS, v_FORMS_tick, rfl⟩,
    q_FORMS_tick := fun H => sqT_of l_FORMS_tick q_FORMS_tick,
    kd_FORMS_put := ⟨_, _, _, l_FORMS, lit_FORMS, v_FORMS_put, rfl⟩,
    q_FORMS_put := fun H => sqT_of l_FORMS_put q_FORMS_put,
    kd_FORMS_get := ⟨_, _, _, l_FORMS, lit_FORMS, v_FORMS_get, rfl⟩,
    q_FORMS_get := fun H => sqT_of l_FORMS_get q_FORMS_get,
    kd_FORMS_below := ⟨_, _, _, l_FORMS, lit_FORMS, v_FORMS_below, rfl⟩,
    q_FORMS_below := fun H => sqT_of l_FORMS_below q_FORMS_below,
    kd_FORMS_above := ⟨_, _, _, l_FORMS, lit_FORMS, v_FORMS_above, rfl⟩,
    q_FORMS_above := fun H => sqT_of l_FORMS_above q_FORMS_above,
    kd_FORMS_bar := ⟨_, _, _, l_FORMS, lit_FORMS, v_FORMS_bar, rfl⟩,
    q_FORMS_bar := fun H => sqT_of l_FORMS_bar q_FORMS_bar,
    kd_FORMS_setbar := ⟨_, _, _, l_FORMS, lit_FORMS, v_FORMS_setbar, rfl⟩,
    q_FORMS_setbar := fun H => sqT_of l_FORMS_setbar q_FORMS_setbar,
    kd_FORMS_retry := ⟨_, _, _, l_FORMS, lit_FORMS, v_FORMS_retry, rfl⟩,
    q_FORMS_retry := fun H => sqT_of l_FORMS_retry q_FORMS_retry,
    g_NAMES := PySem.W.mg_of X G a_NAMES,
    q_NAMES := fun H => sqT_of l_NAMES q_NAMES,
    y_NAMES := ⟨_, l_NAMES, q_NAMES.1, dn_NAMES⟩,
    g_NAME_SHIFT := PySem.W.mg_of X G a_NAME_SHIFT,
    g_PART := PySem.W.mg_of X G a_PART,
    b_abs := PySem.W.mg_none_of X G z_abs,
    b_all := PySem.W.mg_none_of X G z_all,
    b_bool := PySem.W.mg_none_of X G z_bool,
    b_int := PySem.W.mg_none_of X G z_int,
    b_isinstance := PySem.W.mg_none_of X G z_isinstance,
    b_len := PySem.W.mg_none_of X G z_len,
    b_list := PySem.W.mg_none_of X G z_list,
    b_max := PySem.W.mg_none_of X G z_max,
    b_min := PySem.W.mg_none_of X G z_min,
    b_range := PySem.W.mg_none_of X G z_range,
    b_str := PySem.W.mg_none_of X G z_str,
    b_sum := PySem.W.mg_none_of X G z_sum,
    b_tuple := PySem.W.mg_none_of X G z_tuple,
    b_zip := PySem.W.mg_none_of X G z_zip,
    g_AdaError := PySem.W.mg_of X G aC_AdaError,
    x_AdaError := x_AdaError,
    kC_AdaError := kC_AdaError,
    s1_AdaError := s1_AdaError,
    ty_AdaError := ty_AdaError,
    ic_AdaError := ic_AdaError,
    g_ImageError := PySem.W.mg_of X G aC_ImageError,
    x_ImageError := x_ImageError,
    kC_ImageError := kC_ImageError,
    s1_ImageError := s1_ImageError,
    ty_ImageError := ty_ImageError,
    ic_ImageError := ic_ImageError }
  exact ⟨a.d_law, fun s v => .of_eq rfl, fun base _ _ => ok_law T⟩
theorem walk {l : PySem.W.OpenLaw} {q : Program} {loose : List Str} {XP : (Str → Option Value) → Heap → Prop} {YP : World → Heap → Prop} {d : DefRec} {K : Params → PySem.W.Frag} (hn : l.most = some 63) (hdf : d.params.defaults = [])
    (hY : ∀ (w : World) (h : Heap), YP w h → (K w.params).In h)
    (F : ∀ (w : World) (mg : Str → Option Value) (fa : Addr) (h : Heap), (K w.params).In h → h.Ns mainGlobals mg → mg d.name = some (.ref fa) →
      ∃ fd : FuncData, (∀ (s : Shared) (u : Value), BindsTo s fd ⟨[u], []⟩ [("script", u)]) ∧ ∀ base : Heap, (K w.params).In base → base.Ns mainGlobals mg → FnOk l.prog w (K w.params) mg base CX0 9 fa fd ["script"] (spLaw (K w.params))) :
    PySem.W.WalkO q loose XP YP l.row.toRowW d [] (fun f vs => PySem.call f vs) :=
  L2.walk_of (n := 63) (k := 9) (x := "script") (CX := fun _ => CX0) (sp := fun w => spLaw (K w.params)) hn (by decide) hdf ⟨rfl, by decide, by decide⟩ hY F (fun _ _ a ns hl _ hS => ⟨a, ns, rfl, hS, hl, fun _ => rfl⟩) fun _ _ _ _ _ z => z

end My
open PySem PySem.W PyProof.Rows
set_option maxRecDepth 100000 in
set_option maxHeartbeats 0 in
theorem PySem.Challenge.cw_windowada_k58_constants_holds : PySem.Challenge.rw_windowada_k58_constants.Holds := by
  w_on; o_law; k_head; (case hw => w_witness2)
  k_fill
  refine My.walk (l := PySem.Challenge.rw_windowada_k58_constants) rfl rfl (fun w h Y => PySem.W.kIn_of Y) ?F
  case F =>
    intro w mg fa h KX G hmg
    refine' My.all_mk KX G hmg ?aC_AdaError ?x_AdaError ?kC_AdaError ?s1_AdaError ?ty_AdaError ?ic_AdaError ?aC_ImageError ?x_ImageError ?kC_ImageError ?s1_ImageError ?ty_ImageError ?ic_ImageError ?a_is_short ?l_is_short ?c_is_short ?k_is_short ?a_constant ?l_constant ?c_constant ?k_constant ?a_encode ?l_encode ?c_encode ?k_encode ?a_bits_of ?l_bits_of ?c_bits_of ?k_bits_of ?a_law_mixed ?l_law_mixed ?c_law_mixed ?k_law_mixed ?a_law_state ?l_law_state ?c_law_state ?k_law_state ?a_law_draw ?l_law_draw ?c_law_draw ?k_law_draw ?a_law_same ?l_law_same ?c_law_same ?k_law_same ?a_law_word ?l_law_word ?c_law_word ?k_law_word ?a_law_done ?l_law_done ?c_law_done ?k_law_done ?a_law ?l_law ?c_law ?k_law ?a_FIELDS ?l_FIELDS ?lit_FIELDS ?v_FIELDS_d ?l_FIELDS_d ?q_FIELDS_d ?v_FIELDS_a ?l_FIELDS_a ?q_FIELDS_a ?v_FIELDS_reg ?l_FIELDS_reg ?q_FIELDS_reg ?v_FIELDS_int ?l_FIELDS_int ?q_FIELDS_int ?v_FIELDS_part ?l_FIELDS_part ?q_FIELDS_part ?v_FIELDS_far ?l_FIELDS_far ?q_FIELDS_far ?v_FIELDS_distance ?l_FIELDS_distance ?q_FIELDS_distance ?v_FIELDS_number ?l_FIELDS_number ?q_FIELDS_number ?a_FLAG ?a_FORMS ?l_FORMS ?lit_FORMS ?v_FORMS_halt ?l_FORMS_halt ?q_FORMS_halt ?v_FORMS_add ?l_FORMS_add ?q_FORMS_add ?v_FORMS_sub ?l_FORMS_sub ?q_FORMS_sub ?v_FORMS_mul ?l_FORMS_mul ?q_FORMS_mul ?v_FORMS_div ?l_FORMS_div ?q_FORMS_div ?v_FORMS_mod ?l_FORMS_mod ?q_FORMS_mod ?v_FORMS_rem ?l_FORMS_rem ?q_FORMS_rem ?v_FORMS_less ?l_FORMS_less ?q_FORMS_less ?v_FORMS_equal ?l_FORMS_equal ?q_FORMS_equal ?v_FORMS_high ?l_FORMS_high ?q_FORMS_high ?v_FORMS_low ?l_FORMS_low ?q_FORMS_low ?v_FORMS_load ?l_FORMS_load ?q_FORMS_load ?v_FORMS_store ?l_FORMS_store ?q_FORMS_store ?v_FORMS_jump ?l_FORMS_jump ?q_FORMS_jump ?v_FORMS_branch ?l_FORMS_branch ?q_FORMS_branch ?v_FORMS_call ?l_FORMS_call ?q_FORMS_call ?v_FORMS_save ?l_FORMS_save ?q_FORMS_save ?v_FORMS_restore ?l_FORMS_restore ?q_FORMS_restore ?v_FORMS_back ?l_FORMS_back ?q_FORMS_back ?v_FORMS_raise ?l_FORMS_raise ?q_FORMS_raise ?v_FORMS_again ?l_FORMS_again ?q_FORMS_again ?v_FORMS_tick ?l_FORMS_tick ?q_FORMS_tick ?v_FORMS_put ?l_FORMS_put ?q_FORMS_put ?v_FORMS_get ?l_FORMS_get ?q_FORMS_get ?v_FORMS_below ?l_FORMS_below ?q_FORMS_below ?v_FORMS_above ?l_FORMS_above ?q_FORMS_above ?v_FORMS_bar ?l_FORMS_bar ?q_FORMS_bar ?v_FORMS_setbar ?l_FORMS_setbar ?q_FORMS_setbar ?v_FORMS_retry ?l_FORMS_retry ?q_FORMS_retry ?a_NAMES ?l_NAMES ?q_NAMES ?dn_NAMES ?a_NAME_SHIFT ?a_PART ?z_abs ?z_all ?z_bool ?z_int ?z_isinstance ?z_len ?z_list ?z_max ?z_min ?z_range ?z_str ?z_sum ?z_tuple ?z_zip
    (case aC_AdaError => k_is)
    (case x_AdaError => k_exc)
    (case kC_AdaError => k_is)
    (case s1_AdaError => k_is)
    (case ty_AdaError => k_is)
    (case ic_AdaError => k_is)
    (case aC_ImageError => k_is)
    (case x_ImageError => k_exc)
    (case kC_ImageError => k_is)
    (case s1_ImageError => k_is)
    (case ty_ImageError => k_is)
    (case ic_ImageError => k_is)
    (case a_is_short => k_is)
    (case l_is_short => k_is)
    (case c_is_short => k_is)
    (case k_is_short => k_is)
    (case a_constant => k_is)
    (case l_constant => k_is)
    (case c_constant => k_is)
    (case k_constant => k_is)
    (case a_encode => k_is)
    (case l_encode => k_is)
    (case c_encode => k_is)
    (case k_encode => k_is)
    (case a_bits_of => k_is)
    (case l_bits_of => k_is)
    (case c_bits_of => k_is)
    (case k_bits_of => k_is)
    (case a_law_mixed => k_is)
    (case l_law_mixed => k_is)
    (case c_law_mixed => k_is)
    (case k_law_mixed => k_is)
    (case a_law_state => k_is)
    (case l_law_state => k_is)
    (case c_law_state => k_is)
    (case k_law_state => k_is)
    (case a_law_draw => k_is)
    (case l_law_draw => k_is)
    (case c_law_draw => k_is)
    (case k_law_draw => k_is)
    (case a_law_same => k_is)
    (case l_law_same => k_is)
    (case c_law_same => k_is)
    (case k_law_same => k_is)
    (case a_law_word => k_is)
    (case l_law_word => k_is)
    (case c_law_word => k_is)
    (case k_law_word => k_is)
    (case a_law_done => k_is)
    (case l_law_done => k_is)
    (case c_law_done => k_is)
    (case k_law_done => k_is)
    (case a_law => k_is)
    (case l_law => k_is)
    (case c_law => k_is)
    (case k_law => k_is)
    (case a_FIELDS => k_is)
    (case l_FIELDS => k_is)
    (case lit_FIELDS => repeat (first | exact trivial | refine ⟨⟨_, _, rfl, rfl⟩, ?_⟩))
    (case v_FIELDS_d => k_is)
    (case l_FIELDS_d => k_is)
    (case q_FIELDS_d => refine ⟨rfl, _, _, rfl, by decide, ?_⟩; repeat (first | exact .nil | refine .cons ⟨_, rfl⟩ ?_))
    (case v_FIELDS_a => k_is)
    (case l_FIELDS_a => k_is)
    (case q_FIELDS_a => refine ⟨rfl, _, _, rfl, by decide, ?_⟩; repeat (first | exact .nil | refine .cons ⟨_, rfl⟩ ?_))
    (case v_FIELDS_reg => k_is)
    (case l_FIELDS_reg => k_is)
    (case q_FIELDS_reg => refine ⟨rfl, _, _, rfl, by decide, ?_⟩; repeat (first | exact .nil | refine .cons ⟨_, rfl⟩ ?_))
    (case v_FIELDS_int => k_is)
    (case l_FIELDS_int => k_is)
    (case q_FIELDS_int => refine ⟨rfl, _, _, rfl, by decide, ?_⟩; repeat (first | exact .nil | refine .cons ⟨_, rfl⟩ ?_))
    (case v_FIELDS_part => k_is)
    (case l_FIELDS_part => k_is)
    (case q_FIELDS_part => refine ⟨rfl, _, _, rfl, by decide, ?_⟩; repeat (first | exact .nil | refine .cons ⟨_, rfl⟩ ?_))
    (case v_FIELDS_far => k_is)
    (case l_FIELDS_far => k_is)
    (case q_FIELDS_far => refine ⟨rfl, _, _, rfl, by decide, ?_⟩; repeat (first | exact .nil | refine .cons ⟨_, rfl⟩ ?_))
    (case v_FIELDS_distance => k_is)
    (case l_FIELDS_distance => k_is)
    (case q_FIELDS_distance => refine ⟨rfl, _, _, rfl, by decide, ?_⟩; repeat (first | exact .nil | refine .cons ⟨_, rfl⟩ ?_))
    (case v_FIELDS_number => k_is)
    (case l_FIELDS_number => k_is)
    (case q_FIELDS_number => refine ⟨rfl, _, _, rfl, by decide, ?_⟩; repeat (first | exact .nil | refine .cons ⟨_, rfl⟩ ?_))
    (case a_FLAG => k_is)
    (case a_FORMS => k_is)
    (case l_FORMS => k_is)
    (case lit_FORMS => repeat (first | exact trivial | refine ⟨⟨_, _, rfl, rfl⟩, ?_⟩))
    (case v_FORMS_halt => k_is)
    (case l_FORMS_halt => k_is)
    (case q_FORMS_halt => refine ⟨rfl, _, _, rfl, by decide, ?_⟩; repeat (first | exact .nil | refine .cons ⟨_, rfl⟩ ?_))
    (case v_FORMS_add => k_is)
    (case l_FORMS_add => k_is)
    (case q_FORMS_add => refine ⟨rfl, _, _, rfl, by decide, ?_⟩; repeat (first | exact .nil | refine .cons ⟨_, rfl⟩ ?_))
    (case v_FORMS_sub => k_is)
    (case l_FORMS_sub => k_is)
    (case q_FORMS_sub => refine ⟨rfl, _, _, rfl, by decide, ?_⟩; repeat (first | exact .nil | refine .cons ⟨_, rfl⟩ ?_))
    (case v_FORMS_mul => k_is)
    (case l_FORMS_mul => k_is)
    (case q_FORMS_mul => refine ⟨rfl, _, _, rfl, by decide, ?_⟩; repeat (first | exact .nil | refine .cons ⟨_, rfl⟩ ?_))
    (case v_FORMS_div => k_is)
    (case l_FORMS_div => k_is)
    (case q_FORMS_div => refine ⟨rfl, _, _, rfl, by decide, ?_⟩; repeat (first | exact .nil | refine .cons ⟨_, rfl⟩ ?_))
    (case v_FORMS_mod => k_is)
    (case l_FORMS_mod => k_is)
    (case q_FORMS_mod => refine ⟨rfl, _, _, rfl, by decide, ?_⟩; repeat (first | exact .nil | refine .cons ⟨_, rfl⟩ ?_))
    (case v_FORMS_rem => k_is)
    (case l_FORMS_rem => k_is)
    (case q_FORMS_rem => refine ⟨rfl, _, _, rfl, by decide, ?_⟩; repeat (first | exact .nil | refine .cons ⟨_, rfl⟩ ?_))
    (case v_FORMS_less => k_is)
    (case l_FORMS_less => k_is)
    (case q_FORMS_less => refine ⟨rfl, _, _, rfl, by decide, ?_⟩; repeat (first | exact .nil | refine .cons ⟨_, rfl⟩ ?_))
    (case v_FORMS_equal => k_is)
    (case l_FORMS_equal => k_is)
    (case q_FORMS_equal => refine ⟨rfl, _, _, rfl, by decide, ?_⟩; repeat (first | exact .nil | refine .cons ⟨_, rfl⟩ ?_))
    (case v_FORMS_high => k_is)
    (case l_FORMS_high => k_is)
    (case q_FORMS_high => refine ⟨rfl, _, _, rfl, by decide, ?_⟩; repeat (first | exact .nil | refine .cons ⟨_, rfl⟩ ?_))
    (case v_FORMS_low => k_is)
    (case l_FORMS_low => k_is)
    (case q_FORMS_low => refine ⟨rfl, _, _, rfl, by decide, ?_⟩; repeat (first | exact .nil | refine .cons ⟨_, rfl⟩ ?_))
    (case v_FORMS_load => k_is)
    (case l_FORMS_load => k_is)
    (case q_FORMS_load => refine ⟨rfl, _, _, rfl, by decide, ?_⟩; repeat (first | exact .nil | refine .cons ⟨_, rfl⟩ ?_))
    (case v_FORMS_store => k_is)
    (case l_FORMS_store => k_is)
    (case q_FORMS_store => refine ⟨rfl, _, _, rfl, by decide, ?_⟩; repeat (first | exact .nil | refine .cons ⟨_, rfl⟩ ?_))
    (case v_FORMS_jump => k_is)
    (case l_FORMS_jump => k_is)
    (case q_FORMS_jump => refine ⟨rfl, _, _, rfl, by decide, ?_⟩; repeat (first | exact .nil | refine .cons ⟨_, rfl⟩ ?_))
    (case v_FORMS_branch => k_is)
    (case l_FORMS_branch => k_is)
    (case q_FORMS_branch => refine ⟨rfl, _, _, rfl, by decide, ?_⟩; repeat (first | exact .nil | refine .cons ⟨_, rfl⟩ ?_))
    (case v_FORMS_call => k_is)
    (case l_FORMS_call => k_is)
    (case q_FORMS_call => refine ⟨rfl, _, _, rfl, by decide, ?_⟩; repeat (first | exact .nil | refine .cons ⟨_, rfl⟩ ?_))
    (case v_FORMS_save => k_is)
    (case l_FORMS_save => k_is)
    (case q_FORMS_save => refine ⟨rfl, _, _, rfl, by decide, ?_⟩; repeat (first | exact .nil | refine .cons ⟨_, rfl⟩ ?_))
    (case v_FORMS_restore => k_is)
    (case l_FORMS_restore => k_is)
    (case q_FORMS_restore => refine ⟨rfl, _, _, rfl, by decide, ?_⟩; repeat (first | exact .nil | refine .cons ⟨_, rfl⟩ ?_))
    (case v_FORMS_back => k_is)
    (case l_FORMS_back => k_is)
    (case q_FORMS_back => refine ⟨rfl, _, _, rfl, by decide, ?_⟩; repeat (first | exact .nil | refine .cons ⟨_, rfl⟩ ?_))
    (case v_FORMS_raise => k_is)
    (case l_FORMS_raise => k_is)
    (case q_FORMS_raise => refine ⟨rfl, _, _, rfl, by decide, ?_⟩; repeat (first | exact .nil | refine .cons ⟨_, rfl⟩ ?_))
    (case v_FORMS_again => k_is)
    (case l_FORMS_again => k_is)
    (case q_FORMS_again => refine ⟨rfl, _, _, rfl, by decide, ?_⟩; repeat (first | exact .nil | refine .cons ⟨_, rfl⟩ ?_))
    (case v_FORMS_tick => k_is)
    (case l_FORMS_tick => k_is)
    (case q_FORMS_tick => refine ⟨rfl, _, _, rfl, by decide, ?_⟩; repeat (first | exact .nil | refine .cons ⟨_, rfl⟩ ?_))
    (case v_FORMS_put => k_is)
    (case l_FORMS_put => k_is)
    (case q_FORMS_put => refine ⟨rfl, _, _, rfl, by decide, ?_⟩; repeat (first | exact .nil | refine .cons ⟨_, rfl⟩ ?_))
    (case v_FORMS_get => k_is)
    (case l_FORMS_get => k_is)
    (case q_FORMS_get => refine ⟨rfl, _, _, rfl, by decide, ?_⟩; repeat (first | exact .nil | refine .cons ⟨_, rfl⟩ ?_))
    (case v_FORMS_below => k_is)
    (case l_FORMS_below => k_is)
    (case q_FORMS_below => refine ⟨rfl, _, _, rfl, by decide, ?_⟩; repeat (first | exact .nil | refine .cons ⟨_, rfl⟩ ?_))
    (case v_FORMS_above => k_is)
    (case l_FORMS_above => k_is)
    (case q_FORMS_above => refine ⟨rfl, _, _, rfl, by decide, ?_⟩; repeat (first | exact .nil | refine .cons ⟨_, rfl⟩ ?_))
    (case v_FORMS_bar => k_is)
    (case l_FORMS_bar => k_is)
    (case q_FORMS_bar => refine ⟨rfl, _, _, rfl, by decide, ?_⟩; repeat (first | exact .nil | refine .cons ⟨_, rfl⟩ ?_))
    (case v_FORMS_setbar => k_is)
    (case l_FORMS_setbar => k_is)
    (case q_FORMS_setbar => refine ⟨rfl, _, _, rfl, by decide, ?_⟩; repeat (first | exact .nil | refine .cons ⟨_, rfl⟩ ?_))
    (case v_FORMS_retry => k_is)
    (case l_FORMS_retry => k_is)
    (case q_FORMS_retry => refine ⟨rfl, _, _, rfl, by decide, ?_⟩; repeat (first | exact .nil | refine .cons ⟨_, rfl⟩ ?_))
    (case a_NAMES => k_is)
    (case l_NAMES => k_is)
    (case q_NAMES => refine ⟨rfl, _, _, rfl, by decide, ?_⟩; repeat (first | exact .nil | refine .cons ⟨_, rfl⟩ ?_))
    (case dn_NAMES => rfl)
    (case a_NAME_SHIFT => k_is)
    (case a_PART => k_is)
    (case z_abs => k_is)
    (case z_all => k_is)
    (case z_bool => k_is)
    (case z_int => k_is)
    (case z_isinstance => k_is)
    (case z_len => k_is)
    (case z_list => k_is)
    (case z_max => k_is)
    (case z_min => k_is)
    (case z_range => k_is)
    (case z_str => k_is)
    (case z_sum => k_is)
    (case z_tuple => k_is)
    (case z_zip => k_is)

