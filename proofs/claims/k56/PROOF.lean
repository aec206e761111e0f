import PyProof.Rows.All
import Wide.All
import OpenK.AllK
import Wide.FinOn
import HandS.ForMost
import HandS.ForExc
import HandS.Wide
import HandS.IsInst
import HandS.ExcIs
import HandS.WordsExc
import HandS.Property
import HandS.More
import HandS.Codes
import HandS.TupMul
import HandS.Strs
import HandS.SetFor
import HandS.TryOnly
import HandS.Star
import KE.GoesZip
import KE.GoesEnum
import KE.KItemsList
import HandS.Conv
import HandS.TryMany
import HandS.Style
import HandS.RaiseMore
import HandS.FStr
import HandS.Zip
import PySem.Challenge.RW_windowada_k56_encode_and_decode
set_option Elab.async false
set_option maxRecDepth 100000
set_option maxHeartbeats 4000000
set_option linter.all false
namespace My
open PySem L2
/-! ### helpers -/
def IsTupOf (o : Obj) (xs : List V) : Prop := o.cls = .type "tuple" ∧ ∃ (its : Array Value) (n : Nat), o.data = .seq its n ∧ its.size ≤ sizeLine ∧ Vals xs its.toList
theorem sqT_of {K : PySem.W.Frag} {H : Hp} {a : Addr} {o : Obj} {xs : List V} (h : K.lookup a = some o) (q : IsTupOf o xs) : SqT K H a xs := by
  obtain ⟨c, its, n, d, z, r⟩ := q
  exact .inr ⟨o, its, n, h, c, d, z, r⟩
theorem upd_self {H : Hp} {a : Addr} {o : HO} (h : H a = some o) : upd H a o = H := by
  funext b
  unfold upd
  split
  · rename_i e; rw [e, h]
  · rfl
theorem exm_of {K : PySem.W.Frag} {S C : Addr} (h1 : PySem.W.subIn K (.ref C) (.type "BaseException") = some true) (h2 : PySem.W.isClsIn K C = true) (h3 : PySem.W.typeIn K (.ref C) = some (.type "type")) {b : Bool} (h4 : PySem.W.subIn K (.ref S) (.ref C) = some b) :
    PySem.W.exmOne K (.ref S) (.ref C) = some b := by
  have e1 : (PySem.W.subIn K (.ref C) (.type "BaseException") == some true) = true := by rw [h1] <;> rfl
  have e2 : ((PySem.W.clsIn K C).isSome && PySem.W.typeIn K (.ref C) == some (.type "type")) = true := by
    have h2' : (PySem.W.clsIn K C).isSome = true := h2
    rw [h2', h3] <;> rfl
  show (if (PySem.W.subIn K (.ref C) (.type "BaseException") == some true) = true then (if ((PySem.W.clsIn K C).isSome && PySem.W.typeIn K (.ref C) == some (.type "type")) = true then PySem.W.subIn K (.ref S) (.ref C) else none) else none) = some b
  rw [if_pos e1, if_pos e2]
  exact h4
theorem sN {H H1 : Hp} {p : Addr} {o : HO} (s : Same H H1) (n : H1 p = none) : Same H (upd H1 p o) := fun b u e => by
  rw [upd_ne (ne_of_none (s b u e) n)]
  exact s b u e
theorem seqT {K : PySem.W.Frag} {H H' : Hp} {a : Addr} {xs : List V} (e : Same H H') (h : SqT K H a xs) : SqT K H' a xs := by
  rcases h with (h | ⟨o, h⟩) | h
  · exact .inl (.inl (e _ _ h))
  · exact .inl (.inr ⟨o, e _ _ h⟩)
  · exact .inr h
theorem ite3 {b : Bool} {A B : Prop} (h1 : b = true → A) (h2 : b = false → B) : if b = true then A else B := by
  cases b with
  | true => exact iteT (h1 rfl)
  | false => exact iteF (h2 rfl)
section
variable {X : Cx}
def rInS (K : PySem.W.Frag) : R2 := fun x y H Q => ∃ p xs, y = .ref p ∧ (SqL K H p xs ∨ SqT K H p xs) ∧ flatV x = true ∧ xs.all flatV = true ∧ Q (.bl (inV x xs)) H
def rNotInS (K : PySem.W.Frag) : R2 := fun x y H Q => ∃ p xs, y = .ref p ∧ (SqL K H p xs ∨ SqT K H p xs) ∧ flatV x = true ∧ xs.all flatV = true ∧ Q (.bl (!inV x xs)) H
theorem op_inS : OpR X (compareOp .In) (rInS X.K) := fun pins s σ H x y v u Q I rx ry h => op_in_seq pins s σ H x y v u Q I rx ry h
theorem op_notInS : OpR X (compareOp .NotIn) (rNotInS X.K) := fun pins s σ H x y v u Q I rx ry h => op_notIn_seq pins s σ H x y v u Q I rx ry h
end
theorem at0 {v : V} {r : List V} : atI (v :: r) 0 = some v := atI_nat (j := 0) rfl
theorem sUpd {H H1 : Hp} {p : Addr} {o : HO} (s : Same H H1) (n : H p = none) : Same H (upd H1 p o) := fun b u e => by
  rw [upd_ne (ne_of_none e n)]
  exact s b u e
/-! ### match over a value -/
structure PMC (X : Cx) (cases : List MatchCase) (t : V → TS) : Prop where
  run : ∀ (first : Bool) (pins : List (Addr × Obj)) (s : Shared) (σ : St) (H : Hp) (D : Ends) (x : V) (v : Value), Inv X pins σ H s → RelV x v → t x D σ H → wpAny (model X.prog X.w) X.A (matchCases cases X.env v first) (SP X pins D) X.xe s
def mNil : V → TS := fun _ D σ H => D.nx σ H
def mStr (z : Str) (t : TS) (u : V → TS) : V → TS := fun x D σ H => scal x (.str z) = true ∧ if decide (x = .str z) = true then t D σ H else u x D σ H
def tMatch (te : TE) (t : V → TS) : TS := fun D σ H => te σ H fun x H1 => t x D σ H1
section
variable {X : Cx}
theorem pmc_nil : PMC X [] mNil := ⟨fun _ _ _ σ H D x v I _ h => wpAny_matchCases_nil ⟨σ, H, I, h⟩⟩
theorem pmc_str {z : Str} {j : Nat} {p p2 : Pos} {body : List Stmt} {rest : List MatchCase} {t : TS} {u : V → TS} (hb : PSs X body t) (hr : PMC X rest u) : PMC X (⟨.MatchValue (.Constant (.str z) j p) p2, none, body⟩ :: rest) (mStr z t u) := by
  refine ⟨fun first pins s σ H D x v I r h => ?_⟩
  obtain ⟨hs, h⟩ := h
  refine wpAny_matchCases_cons (wpAny_matchPattern_Value ?_)
  have hz : PE X (.Constant (.str z) j p) (tC (.str z)) := pe_str
  refine thn (hz.run pins s σ H (fun y H1 => y = .str z ∧ H1 = H) I ⟨rfl, rfl⟩) fun w s1 ⟨y, H1, I1, r1, e1, e2⟩ => ?_
  subst e1; subst e2
  refine thn (op_eq pins s1 σ H1 x (.str z) v w (fun y H2 => y = .bl (decide (x = .str z)) ∧ H2 = H1) I1 r r1 ⟨hs, rfl, rfl⟩) fun c s2 ⟨y, H2, I2, r2, e1, e2⟩ => ?_
  subst e1; subst e2
  cases r2
  refine wpAny_truthy_bool ?_
  cases e : decide (x = V.str z) with
  | true =>
    rw [e] at h
    refine wpAny_assignInOrder_none ?_
    exact hb.run pins s2 σ H2 D I2 (by simpa using h)
  | false =>
    rw [e] at h
    exact hr.run false pins s2 σ H2 D x v I2 r (by simpa using h)
theorem ps_match {e : Expr} {cs : List MatchCase} {pos : Pos} {te : TE} {t : V → TS} (he : PE X e te) (hc : PMC X cs t) : PS X (.Match e cs pos) (tMatch te t) := by
  refine ⟨fun pins s σ H D I h => ?_⟩
  exact wpAny_Match (thn (he.run pins s σ H _ I h) fun v s1 ⟨x, H1, I1, r1, q1⟩ => hc.run true pins s1 σ H1 D x v I1 r1 q1)
/-- isinstance(e, c) in a suite, whatever the caught class is -/
def rIsEx (K : PySem.W.Frag) (a : Addr) (cls : Value) (d : Option Addr) : List V → Hp → VK → Prop := fun xs H Q => ∃ D, cls = .ref D ∧ d = none ∧ ExcC K D ∧ rIsE K D a xs H Q
theorem call_isEx {a : Addr} {cls : Value} {d : Option Addr} {oe : Obj} {pn : List (Addr × Obj)} (hz : Zc cls d oe) (hf : ∃ vs, oe.data = .fields vs) : CallR (X.suite a ((a, oe) :: pn)) (.builtin "isinstance") (rIsEx X.K a cls d) := by
  intro pins s σ H xs us Q I r h
  obtain ⟨D, rfl, rfl, C, h⟩ := h
  exact call_isE C hz hf pins s σ H xs us Q I r h
end
theorem kit_self {K : PySem.W.Frag} {D : Addr} : PySem.W.kitOne K (.ref D) (.ref D) = some true := by
  unfold PySem.W.kitOne
  rw [if_pos (by simp)]
theorem kit_no {K : PySem.W.Frag} {D C : Addr} (h : PySem.W.subIn K (.ref D) (.ref C) = some false) (hs : PySem.W.subIn K (.ref C) (.ref C) = some true) (h2 : PySem.W.isClsIn K C = true) (h3 : PySem.W.typeIn K (.ref C) = some (.type "type")) :
    PySem.W.kitOne K (.ref D) (.ref C) = some false := by
  have ne : ¬ ((Value.ref D == Value.ref C) = true) := fun e => by
    have e' : D = C := by simpa using e
    subst e'
    rw [h] at hs
    exact nomatch hs
  have e2 : ((PySem.W.clsIn K C).isSome && PySem.W.typeIn K (.ref C) == some (.type "type")) = true := by
    have h2' : (PySem.W.clsIn K C).isSome = true := h2
    rw [h2', h3] <;> rfl
  unfold PySem.W.kitOne
  rw [if_neg ne]
  show (if ((PySem.W.clsIn K C).isSome && PySem.W.typeIn K (.ref C) == some (.type "type")) = true then PySem.W.subIn K (.ref D) (.ref C) else none) = some false
  rw [if_pos e2]
  exact h
theorem kit_sub {K : PySem.W.Frag} {D C : Addr} {b : Bool} (h : PySem.W.subIn K (.ref D) (.ref C) = some b) (hs : b = false → PySem.W.subIn K (.ref C) (.ref C) = some true) (h2 : PySem.W.isClsIn K C = true) (h3 : PySem.W.typeIn K (.ref C) = some (.type "type")) :
    PySem.W.kitOne K (.ref D) (.ref C) = some b := by
  cases b with
  | false => exact kit_no h (hs rfl) h2 h3
  | true =>
    have e2 : ((PySem.W.clsIn K C).isSome && PySem.W.typeIn K (.ref C) == some (.type "type")) = true := by
      have h2' : (PySem.W.clsIn K C).isSome = true := h2
      rw [h2', h3] <;> rfl
    unfold PySem.W.kitOne
    split
    · rfl
    · show (if ((PySem.W.clsIn K C).isSome && PySem.W.typeIn K (.ref C) == some (.type "type")) = true then PySem.W.subIn K (.ref D) (.ref C) else none) = some true
      rw [if_pos e2]
      exact h
theorem kit_bt {K : PySem.W.Frag} {D : Addr} {n : String} {b : Bool} (hm : PySem.W.kitMeta n = true) (h : PySem.W.subIn K (.ref D) (.type n) = some b) : PySem.W.kitOne K (.ref D) (.type n) = some b := by
  unfold PySem.W.kitOne
  rw [if_neg (by simp)]
  show (if PySem.W.kitMeta n = true then PySem.W.subIn K (.ref D) (.type n) else none) = some b
  rw [if_pos hm]
  exact h
/-! ### a method that may raise, called in a try -/
section
variable {X : Cx} {CX : CXT} {k : Nat} {f C : Addr} {fd : FuncData} {ps : List Str} {sp : Sp} {E : St → XK} {m : Str} {pos apos : Pos} {e o : Expr} {es : List Expr} {ta : TE} {t : TA}
def tMethE (C : Addr) (m : Str) (sp : Sp) (E : St → XK) (ta : TE) (t : TA) : TE := fun σ H Q => ta σ H fun x H1 => ∃ a dx fs, x = .ref a ∧ H1 a = some (.ins C dx fs) ∧ fs.lookup m = none ∧ t σ H1 fun vs H2 => sp (x :: vs) H2 Q (E σ)
theorem pe_methE0 {pl : Sem Bool} (he : PE X o ta) (c : Cls X.K C) (hm : Meth X.K C m f) (F : FnOk X.prog X.w X.K X.mg X.base CX k f fd ps sp) (hr : Room k X.A) (hb : Binds X.K fd ps []) (hx : ∀ σ, PassesAt CX X σ (E σ))
    (ht : eval (.Call (.Attribute o m apos) [] [] pos) X.env = (do
      let ov ← eval o X.env
      standAt apos.atName
      let (f, first) ← holding [ov] (getMethod ov m pl)
      callWith pos f first (backTo pos (starEach [] X.env)) (backToKw pos (keywordEach [] X.env))) := by rfl) :
    PE X (.Call (.Attribute o m apos) [] [] pos) (tMethE C m sp E ta tNil) := by
  refine ⟨fun pins s σ H Q I h => ?_⟩
  refine PySem.W.methodCall_KW (pl := pl) (thn (he.run pins s σ H _ I h) fun u s1 ⟨x, H1, I1, rx, a, dx, fs, ex, ea, l, q⟩ => ?_) ht
  subst ex
  obtain rfl : u = Value.ref a := rx
  refine getmeth_ok I1 ea c hm l ?_
  exact PySem.W.callWith_K0 (first := [.ref a]) I1.kIn hm.kp (run_fnS (us := [.ref a]) (vs := [.ref a]) F hr hb (hx σ) I1 (.cons rfl .nil) q)
theorem pe_methE {pl : Sem Bool} (he : PE X o ta) (c : Cls X.K C) (hm : Meth X.K C m f) (F : FnOk X.prog X.w X.K X.mg X.base CX k f fd ps sp) (hr : Room k X.A) (hb : Binds X.K fd ps []) (hx : ∀ σ, PassesAt CX X σ (E σ)) (ha : PA X (e :: es) t)
    (hst : starEach (e :: es) X.env = (false, eval e X.env) :: starEach es X.env := by rfl) (hpl : (backTo pos (starEach es X.env)).any (·.1) = false := by rfl)
    (ht : eval (.Call (.Attribute o m apos) (e :: es) [] pos) X.env = (do
      let ov ← eval o X.env
      standAt apos.atName
      let (f, first) ← holding [ov] (getMethod ov m pl)
      callWith pos f first (backTo pos (starEach (e :: es) X.env)) (backToKw pos (keywordEach [] X.env))) := by rfl) :
    PE X (.Call (.Attribute o m apos) (e :: es) [] pos) (tMethE C m sp E ta t) := by
  refine ⟨fun pins s σ H Q I h => ?_⟩
  refine PySem.W.methodCall_KW (pl := pl) (thn (he.run pins s σ H _ I h) fun u s1 ⟨x, H1, I1, rx, a, dx, fs, ex, ea, l, q⟩ => ?_) ht
  subst ex
  obtain rfl : u = Value.ref a := rx
  refine getmeth_ok I1 ea c hm l ?_
  refine PySem.W.callWith_K (first := [.ref a]) (h₀ := X.base) I.ok.mod.kin hm.kp (thn (ha.run pos pins s1 σ H1 _ I1 q) fun us s2 ⟨vs, H2, I2, r, q2⟩ => ⟨I2.kIn, ?_⟩) hst hpl
  exact run_fnS (us := .ref a :: us) (vs := .ref a :: vs) F hr hb (hx σ) I2 (.cons rfl r) q2
end
def spNever : Sp := fun _ _ _ _ => False
theorem tyx_tup {K : PySem.W.Frag} {H : Hp} {a : Addr} {xs : List V} (h : SqT K H a xs) : TyX K H (.ref a) (.type "tuple") := by
  rcases h with (h | ⟨o, h⟩) | ⟨o, its, n, hk, hc, _⟩
  · exact .base (.tup h)
  · exact .fTuple h
  · exact .kTuple hk hc

def top (i : Nat) : Stmt := PySem.Challenge.pw_windowada_k56_encode_and_decode.main.body.getD i (.Pass ⟨0, 0, 0, 0⟩)
abbrev s_encode : Stmt := top 9
abbrev s_bits_of : Stmt := top 10
abbrev s_decode : Stmt := top 13
abbrev s_part_of : Stmt := top 14
abbrev s_law_mixed : Stmt := top 16
abbrev s_law_state : Stmt := top 17
abbrev s_law_draw : Stmt := top 18
abbrev s_law_same : Stmt := top 19
abbrev s_law_names : Stmt := top 20
abbrev s_law_ranges : Stmt := top 21
abbrev s_law_instruction : Stmt := top 22
abbrev s_law_encoded : Stmt := top 23
abbrev s_law_between : Stmt := top 24
abbrev s_law_decoded : Stmt := top 25
abbrev s_law : Stmt := top 26
theorem sc_encode : FnScope ["instruction", "name", "word", "field", "part"] ["instruction"] (defScope s_encode) := ⟨rfl, rfl, rfl, by decide +kernel, rfl, by decide +kernel, by decide +kernel⟩
theorem sc_bits_of : FnScope ["field", "part", "kind", "number", "shift", "many", "low", "high", "bits"] ["field", "part"] (defScope s_bits_of) := ⟨rfl, rfl, rfl, by decide +kernel, rfl, by decide +kernel, by decide +kernel⟩
theorem sc_decode : FnScope ["word", "number", "name", "instruction", "field", "is_same"] ["word"] (defScope s_decode) := ⟨rfl, rfl, rfl, by decide +kernel, rfl, by decide +kernel, by decide +kernel⟩
theorem sc_part_of : FnScope ["field", "word", "kind", "shift", "many", "low", "_", "number"] ["field", "word"] (defScope s_part_of) := ⟨rfl, rfl, rfl, by decide +kernel, rfl, by decide +kernel, by decide +kernel⟩
theorem sc_law_mixed : FnScope ["number", "count", "first", "second"] ["number", "count"] (defScope s_law_mixed) := ⟨rfl, rfl, rfl, by decide +kernel, rfl, by decide +kernel, by decide +kernel⟩
theorem sc_law_state : FnScope ["script", "budget"] ["script", "budget"] (defScope s_law_state) := ⟨rfl, rfl, rfl, by decide +kernel, rfl, by decide +kernel, by decide +kernel⟩
theorem sc_law_draw : FnScope ["state", "many", "cells", "cell", "digit"] ["state", "many"] (defScope s_law_draw) := ⟨rfl, rfl, rfl, by decide +kernel, rfl, by decide +kernel, by decide +kernel⟩
theorem sc_law_same : FnScope ["actual", "due", "k"] ["actual", "due"] (defScope s_law_same) := ⟨rfl, rfl, rfl, by decide +kernel, rfl, by decide +kernel, by decide +kernel⟩
theorem sc_law_names : FnScope ["names"] [] (defScope s_law_names) := ⟨rfl, rfl, rfl, by decide +kernel, rfl, by decide +kernel, by decide +kernel⟩
theorem sc_law_ranges : FnScope ["name", "kind", "r", "s"] ["name", "kind"] (defScope s_law_ranges) := ⟨rfl, rfl, rfl, by decide +kernel, rfl, by decide +kernel, by decide +kernel⟩
theorem sc_law_instruction : FnScope ["name", "kind", "numbers"] ["name", "kind", "numbers"] (defScope s_law_instruction) := ⟨rfl, rfl, rfl, by decide +kernel, rfl, by decide +kernel, by decide +kernel⟩
theorem sc_law_encoded : FnScope ["name", "kind", "numbers", "word"] ["name", "kind", "numbers"] (defScope s_law_encoded) := ⟨rfl, rfl, rfl, by decide +kernel, rfl, by decide +kernel, by decide +kernel⟩
theorem sc_law_between : FnScope ["state", "low", "high", "choice"] ["state", "low", "high"] (defScope s_law_between) := ⟨rfl, rfl, rfl, by decide +kernel, rfl, by decide +kernel, by decide +kernel⟩
theorem sc_law_decoded : FnScope ["word", "name", "rest", "kind", "bits", "n", "numbers", "ranges", "k"] ["word"] (defScope s_law_decoded) := ⟨rfl, rfl, rfl, by decide +kernel, rfl, by decide +kernel, by decide +kernel⟩
theorem sc_law : FnScope ["script", "state", "name", "kind", "numbers", "low", "high", "instruction", "word", "other"] ["script"] (defScope s_law) := ⟨rfl, rfl, rfl, by decide +kernel, rfl, by decide +kernel, by decide +kernel⟩
structure Ad where
  f_encode : Addr
  d_encode : FuncData
  f_bits_of : Addr
  d_bits_of : FuncData
  f_decode : Addr
  d_decode : FuncData
  f_part_of : Addr
  d_part_of : FuncData
  f_law_mixed : Addr
  d_law_mixed : FuncData
  f_law_state : Addr
  d_law_state : FuncData
  f_law_draw : Addr
  d_law_draw : FuncData
  f_law_same : Addr
  d_law_same : FuncData
  f_law_names : Addr
  d_law_names : FuncData
  f_law_ranges : Addr
  d_law_ranges : FuncData
  f_law_instruction : Addr
  d_law_instruction : FuncData
  f_law_encoded : Addr
  d_law_encoded : FuncData
  f_law_between : Addr
  d_law_between : FuncData
  f_law_decoded : Addr
  d_law_decoded : FuncData
  f_law : Addr
  d_law : FuncData
  c_BAD : Addr
  c_FIELDS : Addr
  c_FIELDS_d : Addr
  c_FIELDS_a : Addr
  c_FIELDS_reg : Addr
  c_FIELDS_int : Addr
  c_FIELDS_part : Addr
  c_FIELDS_far : Addr
  c_FIELDS_distance : Addr
  c_FIELDS_number : Addr
  t_FLAG : Tok
  c_FORMS : Addr
  c_FORMS_halt : Addr
  c_FORMS_add : Addr
  c_FORMS_sub : Addr
  c_FORMS_mul : Addr
  c_FORMS_div : Addr
  c_FORMS_mod : Addr
  c_FORMS_rem : Addr
  c_FORMS_less : Addr
  c_FORMS_equal : Addr
  c_FORMS_high : Addr
  c_FORMS_low : Addr
  c_FORMS_load : Addr
  c_FORMS_store : Addr
  c_FORMS_jump : Addr
  c_FORMS_branch : Addr
  c_FORMS_call : Addr
  c_FORMS_save : Addr
  c_FORMS_restore : Addr
  c_FORMS_back : Addr
  c_FORMS_raise : Addr
  c_FORMS_again : Addr
  c_FORMS_tick : Addr
  c_FORMS_put : Addr
  c_FORMS_get : Addr
  c_FORMS_below : Addr
  c_FORMS_above : Addr
  c_FORMS_bar : Addr
  c_FORMS_setbar : Addr
  c_FORMS_retry : Addr
  c_NAMES : Addr
  t_NAME_SHIFT : Tok
  C_AdaError : Addr
  C_ImageError : Addr
structure Txt (w : World) (K : PySem.W.Frag) (mg : Str → Option Value) (a : Ad) : Prop where
  g_encode : mg "encode" = some (.ref a.f_encode)
  F_encode : Fun K "encode" "encode" s_encode a.f_encode a.d_encode
  k_encode : PySem.W.keepIn K (.ref a.f_encode) = true
  bd_encode : Binds K a.d_encode ["instruction"] []
  g__bits_of : mg "_bits_of" = some (.ref a.f_bits_of)
  F__bits_of : Fun K "_bits_of" "_bits_of" s_bits_of a.f_bits_of a.d_bits_of
  k__bits_of : PySem.W.keepIn K (.ref a.f_bits_of) = true
  bd__bits_of : Binds K a.d_bits_of ["field", "part"] []
  g_decode : mg "decode" = some (.ref a.f_decode)
  F_decode : Fun K "decode" "decode" s_decode a.f_decode a.d_decode
  k_decode : PySem.W.keepIn K (.ref a.f_decode) = true
  bd_decode : Binds K a.d_decode ["word"] []
  g__part_of : mg "_part_of" = some (.ref a.f_part_of)
  F__part_of : Fun K "_part_of" "_part_of" s_part_of a.f_part_of a.d_part_of
  k__part_of : PySem.W.keepIn K (.ref a.f_part_of) = true
  bd__part_of : Binds K a.d_part_of ["field", "word"] []
  g__law_mixed : mg "_law_mixed" = some (.ref a.f_law_mixed)
  F__law_mixed : Fun K "_law_mixed" "_law_mixed" s_law_mixed a.f_law_mixed a.d_law_mixed
  k__law_mixed : PySem.W.keepIn K (.ref a.f_law_mixed) = true
  bd__law_mixed : Binds K a.d_law_mixed ["number", "count"] []
  g__law_state : mg "_law_state" = some (.ref a.f_law_state)
  F__law_state : Fun K "_law_state" "_law_state" s_law_state a.f_law_state a.d_law_state
  k__law_state : PySem.W.keepIn K (.ref a.f_law_state) = true
  bd__law_state : Binds K a.d_law_state ["script", "budget"] []
  g__law_draw : mg "_law_draw" = some (.ref a.f_law_draw)
  F__law_draw : Fun K "_law_draw" "_law_draw" s_law_draw a.f_law_draw a.d_law_draw
  k__law_draw : PySem.W.keepIn K (.ref a.f_law_draw) = true
  bd__law_draw : Binds K a.d_law_draw ["state", "many"] []
  g__law_same : mg "_law_same" = some (.ref a.f_law_same)
  F__law_same : Fun K "_law_same" "_law_same" s_law_same a.f_law_same a.d_law_same
  k__law_same : PySem.W.keepIn K (.ref a.f_law_same) = true
  bd__law_same : Binds K a.d_law_same ["actual", "due"] []
  g__law_names : mg "_law_names" = some (.ref a.f_law_names)
  F__law_names : Fun K "_law_names" "_law_names" s_law_names a.f_law_names a.d_law_names
  k__law_names : PySem.W.keepIn K (.ref a.f_law_names) = true
  bd__law_names : Binds K a.d_law_names [] []
  g__law_ranges : mg "_law_ranges" = some (.ref a.f_law_ranges)
  F__law_ranges : Fun K "_law_ranges" "_law_ranges" s_law_ranges a.f_law_ranges a.d_law_ranges
  k__law_ranges : PySem.W.keepIn K (.ref a.f_law_ranges) = true
  bd__law_ranges : Binds K a.d_law_ranges ["name", "kind"] []
  g__law_instruction : mg "_law_instruction" = some (.ref a.f_law_instruction)
  F__law_instruction : Fun K "_law_instruction" "_law_instruction" s_law_instruction a.f_law_instruction a.d_law_instruction
  k__law_instruction : PySem.W.keepIn K (.ref a.f_law_instruction) = true
  bd__law_instruction : Binds K a.d_law_instruction ["name", "kind", "numbers"] []
  g__law_encoded : mg "_law_encoded" = some (.ref a.f_law_encoded)
  F__law_encoded : Fun K "_law_encoded" "_law_encoded" s_law_encoded a.f_law_encoded a.d_law_encoded
  k__law_encoded : PySem.W.keepIn K (.ref a.f_law_encoded) = true
  bd__law_encoded : Binds K a.d_law_encoded ["name", "kind", "numbers"] []
  g__law_between : mg "_law_between" = some (.ref a.f_law_between)
  F__law_between : Fun K "_law_between" "_law_between" s_law_between a.f_law_between a.d_law_between
  k__law_between : PySem.W.keepIn K (.ref a.f_law_between) = true
  bd__law_between : Binds K a.d_law_between ["state", "low", "high"] []
  g__law_decoded : mg "_law_decoded" = some (.ref a.f_law_decoded)
  F__law_decoded : Fun K "_law_decoded" "_law_decoded" s_law_decoded a.f_law_decoded a.d_law_decoded
  k__law_decoded : PySem.W.keepIn K (.ref a.f_law_decoded) = true
  bd__law_decoded : Binds K a.d_law_decoded ["word"] []
  g_law : mg "law" = some (.ref a.f_law)
  F_law : Fun K "law" "law" s_law a.f_law a.d_law
  k_law : PySem.W.keepIn K (.ref a.f_law) = true
  bd_law : Binds K a.d_law ["script"] []
  g_BAD : mg "BAD" = some (.ref a.c_BAD)
  q_BAD : ∀ H : Hp, SqT K H a.c_BAD [.str "bad"]
  y_BAD : ∃ o, K.lookup a.c_BAD = some o ∧ o.cls = .type "tuple" ∧ o.dict = none
  g_FIELDS : mg "FIELDS" = some (.ref a.c_FIELDS)
  kd_FIELDS_d : KDct K w a.c_FIELDS "d" (.ref a.c_FIELDS_d)
  q_FIELDS_d : ∀ H : Hp, SqT K H a.c_FIELDS_d [.int (21), .int (5), .int (0), .int (31)]
  kd_FIELDS_a : KDct K w a.c_FIELDS "a" (.ref a.c_FIELDS_a)
  q_FIELDS_a : ∀ H : Hp, SqT K H a.c_FIELDS_a [.int (16), .int (5), .int (0), .int (31)]
  kd_FIELDS_reg : KDct K w a.c_FIELDS "reg" (.ref a.c_FIELDS_reg)
  q_FIELDS_reg : ∀ H : Hp, SqT K H a.c_FIELDS_reg [.int (0), .int (15), .int (0), .int (31)]
  kd_FIELDS_int : KDct K w a.c_FIELDS "int" (.ref a.c_FIELDS_int)
  q_FIELDS_int : ∀ H : Hp, SqT K H a.c_FIELDS_int [.int (0), .int (15), .int (-16384), .int (16383)]
  kd_FIELDS_part : KDct K w a.c_FIELDS "part" (.ref a.c_FIELDS_part)
  q_FIELDS_part : ∀ H : Hp, SqT K H a.c_FIELDS_part [.int (0), .int (15), .int (0), .int (2047)]
  kd_FIELDS_far : KDct K w a.c_FIELDS "far" (.ref a.c_FIELDS_far)
  q_FIELDS_far : ∀ H : Hp, SqT K H a.c_FIELDS_far [.int (0), .int (21), .int (-1048576), .int (1048575)]
  kd_FIELDS_distance : KDct K w a.c_FIELDS "distance" (.ref a.c_FIELDS_distance)
  q_FIELDS_distance : ∀ H : Hp, SqT K H a.c_FIELDS_distance [.int (0), .int (26), .int (-33554432), .int (33554431)]
  kd_FIELDS_number : KDct K w a.c_FIELDS "number" (.ref a.c_FIELDS_number)
  q_FIELDS_number : ∀ H : Hp, SqT K H a.c_FIELDS_number [.int (0), .int (26), .int (0), .int (67108863)]
  g_FLAG : mg "FLAG" = some (.int (32768) a.t_FLAG)
  g_FORMS : mg "FORMS" = some (.ref a.c_FORMS)
  kd_FORMS_halt : KDct K w a.c_FORMS "halt" (.ref a.c_FORMS_halt)
  q_FORMS_halt : ∀ H : Hp, SqT K H a.c_FORMS_halt []
  kd_FORMS_add : KDct K w a.c_FORMS "add" (.ref a.c_FORMS_add)
  q_FORMS_add : ∀ H : Hp, SqT K H a.c_FORMS_add [.str "d", .str "a", .str "source"]
  kd_FORMS_sub : KDct K w a.c_FORMS "sub" (.ref a.c_FORMS_sub)
  q_FORMS_sub : ∀ H : Hp, SqT K H a.c_FORMS_sub [.str "d", .str "a", .str "source"]
  kd_FORMS_mul : KDct K w a.c_FORMS "mul" (.ref a.c_FORMS_mul)
  q_FORMS_mul : ∀ H : Hp, SqT K H a.c_FORMS_mul [.str "d", .str "a", .str "source"]
  kd_FORMS_div : KDct K w a.c_FORMS "div" (.ref a.c_FORMS_div)
  q_FORMS_div : ∀ H : Hp, SqT K H a.c_FORMS_div [.str "d", .str "a", .str "source"]
  kd_FORMS_mod : KDct K w a.c_FORMS "mod" (.ref a.c_FORMS_mod)
  q_FORMS_mod : ∀ H : Hp, SqT K H a.c_FORMS_mod [.str "d", .str "a", .str "source"]
  kd_FORMS_rem : KDct K w a.c_FORMS "rem" (.ref a.c_FORMS_rem)
  q_FORMS_rem : ∀ H : Hp, SqT K H a.c_FORMS_rem [.str "d", .str "a", .str "source"]
  kd_FORMS_less : KDct K w a.c_FORMS "less" (.ref a.c_FORMS_less)
  q_FORMS_less : ∀ H : Hp, SqT K H a.c_FORMS_less [.str "d", .str "a", .str "source"]
  kd_FORMS_equal : KDct K w a.c_FORMS "equal" (.ref a.c_FORMS_equal)
  q_FORMS_equal : ∀ H : Hp, SqT K H a.c_FORMS_equal [.str "d", .str "a", .str "source"]
  kd_FORMS_high : KDct K w a.c_FORMS "high" (.ref a.c_FORMS_high)
  q_FORMS_high : ∀ H : Hp, SqT K H a.c_FORMS_high [.str "d", .str "far"]
  kd_FORMS_low : KDct K w a.c_FORMS "low" (.ref a.c_FORMS_low)
  q_FORMS_low : ∀ H : Hp, SqT K H a.c_FORMS_low [.str "d", .str "a", .str "part"]
  kd_FORMS_load : KDct K w a.c_FORMS "load" (.ref a.c_FORMS_load)
  q_FORMS_load : ∀ H : Hp, SqT K H a.c_FORMS_load [.str "d", .str "a", .str "source"]
  kd_FORMS_store : KDct K w a.c_FORMS "store" (.ref a.c_FORMS_store)
  q_FORMS_store : ∀ H : Hp, SqT K H a.c_FORMS_store [.str "d", .str "a", .str "source"]
  kd_FORMS_jump : KDct K w a.c_FORMS "jump" (.ref a.c_FORMS_jump)
  q_FORMS_jump : ∀ H : Hp, SqT K H a.c_FORMS_jump [.str "distance"]
  kd_FORMS_branch : KDct K w a.c_FORMS "branch" (.ref a.c_FORMS_branch)
  q_FORMS_branch : ∀ H : Hp, SqT K H a.c_FORMS_branch [.str "d", .str "far"]
  kd_FORMS_call : KDct K w a.c_FORMS "call" (.ref a.c_FORMS_call)
  q_FORMS_call : ∀ H : Hp, SqT K H a.c_FORMS_call [.str "number"]
  kd_FORMS_save : KDct K w a.c_FORMS "save" (.ref a.c_FORMS_save)
  q_FORMS_save : ∀ H : Hp, SqT K H a.c_FORMS_save [.str "d", .str "a", .str "source"]
  kd_FORMS_restore : KDct K w a.c_FORMS "restore" (.ref a.c_FORMS_restore)
  q_FORMS_restore : ∀ H : Hp, SqT K H a.c_FORMS_restore []
  kd_FORMS_back : KDct K w a.c_FORMS "back" (.ref a.c_FORMS_back)
  q_FORMS_back : ∀ H : Hp, SqT K H a.c_FORMS_back []
  kd_FORMS_raise : KDct K w a.c_FORMS "raise" (.ref a.c_FORMS_raise)
  q_FORMS_raise : ∀ H : Hp, SqT K H a.c_FORMS_raise [.str "number"]
  kd_FORMS_again : KDct K w a.c_FORMS "again" (.ref a.c_FORMS_again)
  q_FORMS_again : ∀ H : Hp, SqT K H a.c_FORMS_again [.str "a", .str "source"]
  kd_FORMS_tick : KDct K w a.c_FORMS "tick" (.ref a.c_FORMS_tick)
  q_FORMS_tick : ∀ H : Hp, SqT K H a.c_FORMS_tick []
  kd_FORMS_put : KDct K w a.c_FORMS "put" (.ref a.c_FORMS_put)
  q_FORMS_put : ∀ H : Hp, SqT K H a.c_FORMS_put [.str "source"]
  kd_FORMS_get : KDct K w a.c_FORMS "get" (.ref a.c_FORMS_get)
  q_FORMS_get : ∀ H : Hp, SqT K H a.c_FORMS_get [.str "d"]
  kd_FORMS_below : KDct K w a.c_FORMS "below" (.ref a.c_FORMS_below)
  q_FORMS_below : ∀ H : Hp, SqT K H a.c_FORMS_below [.str "a", .str "source"]
  kd_FORMS_above : KDct K w a.c_FORMS "above" (.ref a.c_FORMS_above)
  q_FORMS_above : ∀ H : Hp, SqT K H a.c_FORMS_above [.str "a", .str "source"]
  kd_FORMS_bar : KDct K w a.c_FORMS "bar" (.ref a.c_FORMS_bar)
  q_FORMS_bar : ∀ H : Hp, SqT K H a.c_FORMS_bar [.str "d"]
  kd_FORMS_setbar : KDct K w a.c_FORMS "setbar" (.ref a.c_FORMS_setbar)
  q_FORMS_setbar : ∀ H : Hp, SqT K H a.c_FORMS_setbar [.str "source"]
  kd_FORMS_retry : KDct K w a.c_FORMS "retry" (.ref a.c_FORMS_retry)
  q_FORMS_retry : ∀ H : Hp, SqT K H a.c_FORMS_retry []
  g_NAMES : mg "NAMES" = some (.ref a.c_NAMES)
  q_NAMES : ∀ H : Hp, SqT K H a.c_NAMES [.str "halt", .str "add", .str "sub", .str "mul", .str "div", .str "mod", .str "rem", .str "less", .str "equal", .str "high", .str "low", .str "load", .str "store", .str "jump", .str "branch", .str "call", .str "save", .str "restore", .str "back", .str "raise", .str "again", .str "tick", .str "put", .str "get", .str "below", .str "above", .str "bar", .str "setbar", .str "retry"]
  y_NAMES : ∃ o, K.lookup a.c_NAMES = some o ∧ o.cls = .type "tuple" ∧ o.dict = none
  g_NAME_SHIFT : mg "NAME_SHIFT" = some (.int (26) a.t_NAME_SHIFT)
  b_abs : mg "abs" = none
  b_all : mg "all" = none
  b_bool : mg "bool" = none
  b_int : mg "int" = none
  b_isinstance : mg "isinstance" = none
  b_len : mg "len" = none
  b_list : mg "list" = none
  b_max : mg "max" = none
  b_min : mg "min" = none
  b_range : mg "range" = none
  b_str : mg "str" = none
  b_sum : mg "sum" = none
  b_tuple : mg "tuple" = none
  b_zip : mg "zip" = none
  g_AdaError : mg "AdaError" = some (.ref a.C_AdaError)
  x_AdaError : PySem.W.excIn K a.C_AdaError [.type "ValueError", .type "Exception", .type "BaseException", .type "object"] "ValueError.__new__" = true
  kC_AdaError : PySem.W.keepIn K (.ref a.C_AdaError) = true
  s1_AdaError : PySem.W.subIn K (.ref a.C_AdaError) (.type "BaseException") = some true
  ty_AdaError : PySem.W.typeIn K (.ref a.C_AdaError) = some (.type "type")
  ic_AdaError : PySem.W.isClsIn K a.C_AdaError = true
  g_ImageError : mg "ImageError" = some (.ref a.C_ImageError)
  x_ImageError : PySem.W.excIn K a.C_ImageError [.type "ValueError", .type "Exception", .type "BaseException", .type "object"] "ValueError.__new__" = true
  kC_ImageError : PySem.W.keepIn K (.ref a.C_ImageError) = true
  s1_ImageError : PySem.W.subIn K (.ref a.C_ImageError) (.type "BaseException") = some true
  ty_ImageError : PySem.W.typeIn K (.ref a.C_ImageError) = some (.type "type")
  ic_ImageError : PySem.W.isClsIn K a.C_ImageError = true
  e_ImageError_ImageError : PySem.W.exmOne K (.ref a.C_ImageError) (.ref a.C_ImageError) = some true
/-! ### rules of a block over a fixed K -/
theorem ix_tupK {X : Cx} {K : PySem.W.Frag} (h : X.K = K) : IxR X (rIxT K) := by
  subst h
  exact ix_tup
theorem ix_listK {X : Cx} {K : PySem.W.Frag} (h : X.K = K) : IxR X (rIxL K) := by
  subst h
  exact ix_list
theorem call_isiK {X : Cx} {K : PySem.W.Frag} (h : X.K = K) : CallR X (.builtin "isinstance") (rIsi K) := by
  subst h
  exact call_isi
theorem sTr {H H1 H2 : Hp} (x : Same H H1) (y : Same H1 H2) : Same H H2 := fun b o e => y b o (x b o e)
/-! ### data without lists -/
mutual
inductive DT (K : PySem.W.Frag) (H : Hp) : V → PyData → Prop
  | non : DT K H .non .none
  | bl (b : Bool) : DT K H (.bl b) (.bool b)
  | int (i : Int) : DT K H (.int i) (.int i)
  | str (x : Str) : DT K H (.str x) (.str x)
  | tup {a : Addr} {xs : List V} {ds : List PyData} : SqT K H a xs → DTs K H xs ds → DT K H (.ref a) (.tuple ds)
inductive DTs (K : PySem.W.Frag) (H : Hp) : List V → List PyData → Prop
  | nil : DTs K H [] []
  | cons {v : V} {vs : List V} {d : PyData} {ds : List PyData} : DT K H v d → DTs K H vs ds → DTs K H (v :: vs) (d :: ds)
end
section
variable {K : PySem.W.Frag} {H H' H2 : Hp}
theorem DTs.len : ∀ {vs : List V} {ds : List PyData}, DTs K H vs ds → vs.length = ds.length
  | _, _, .nil => rfl
  | _, _, .cons _ r => congrArg (· + 1) r.len
theorem DTs.get : ∀ {vs : List V} {ds : List PyData} {i : Nat} {d : PyData}, DTs K H vs ds → ds[i]? = some d → ∃ v, vs[i]? = some v ∧ DT K H v d
  | _, _, _, _, .nil, e => by simp at e
  | _, _, 0, _, .cons h _, e => by
    obtain rfl := Option.some.inj e
    exact ⟨_, rfl, h⟩
  | _, _, i + 1, d, .cons _ r, e => by
    obtain ⟨v, h1, h2⟩ := r.get (i := i) (d := d) (by simpa using e)
    exact ⟨v, by simpa using h1, h2⟩
theorem DTs.at : ∀ {vs : List V} {ds : List PyData} {i : Nat} {v : V}, DTs K H vs ds → vs[i]? = some v → ∃ d, ds[i]? = some d ∧ DT K H v d
  | _, _, _, _, .nil, e => by simp at e
  | _, _, 0, _, .cons h _, e => by
    obtain rfl := Option.some.inj e
    exact ⟨_, rfl, h⟩
  | _, _, i + 1, v, .cons _ r, e => by
    obtain ⟨d, h1, h2⟩ := r.at (i := i) (v := v) (by simpa using e)
    exact ⟨d, by simpa using h1, h2⟩
theorem DTs.app : ∀ {vs ws : List V} {ds es : List PyData}, DTs K H vs ds → DTs K H ws es → DTs K H (vs ++ ws) (ds ++ es)
  | _, _, _, _, .nil, s => s
  | _, _, _, _, .cons h r, s => .cons h (r.app s)
/-- tuples stay -/
def KT (K : PySem.W.Frag) (H H' : Hp) : Prop := ∀ a xs, SqT K H a xs → SqT K H' a xs
theorem KT.same (s : Same H H') : KT K H H' := fun _ _ h => seqT s h
theorem KT.tr (x : KT K H H') (y : KT K H' H2) : KT K H H2 := fun a xs h => y a xs (x a xs h)
theorem KT.put {p : Addr} {ys : List V} {o : HO} (e : H p = some (.lst ys)) : KT K H (upd H p o) := fun a xs h => by
  rcases h with (h | ⟨u, h⟩) | h
  · exact .inl (.inl (by rw [upd_ne (ne_of h e fun z => nomatch z)]; exact h))
  · exact .inl (.inr ⟨u, by rw [upd_ne (ne_of h e fun z => nomatch z)]; exact h⟩)
  · exact .inr h
theorem KT.new {p : Addr} {o : HO} (n : H p = none) : KT K H (upd H p o) := .same (sN (Same.refl H) n)
mutual
theorem DT.keep (k : KT K H H') : ∀ {v : V} {d : PyData}, DT K H v d → DT K H' v d
  | _, _, .non => .non
  | _, _, .bl b => .bl b
  | _, _, .int b => .int b
  | _, _, .str b => .str b
  | _, _, .tup h r => .tup (k _ _ h) (r.keep k)
theorem DTs.keep (k : KT K H H') : ∀ {vs : List V} {ds : List PyData}, DTs K H vs ds → DTs K H' vs ds
  | _, _, .nil => .nil
  | _, _, .cons h r => .cons (h.keep k) (r.keep k)
end
def isTup : PyData → Bool
  | .tuple _ => true
  | _ => false
theorem DT.isT {v : V} {d : PyData} (h : DT K H v d) : ∃ t, TyX K H v t ∧ PySem.W.kitOne K t (.type "tuple") = some (isTup d) := by
  cases h with
  | non => exact ⟨_, .base .non, kit_ty (by decide +kernel : kitB "NoneType" "tuple" = some false)⟩
  | bl b => exact ⟨_, .base (.bl b), kit_ty (by decide +kernel : kitB "bool" "tuple" = some false)⟩
  | int b => exact ⟨_, .base (.int b), kit_ty (by decide +kernel : kitB "int" "tuple" = some false)⟩
  | str b => exact ⟨_, .base (.str b), kit_ty (by decide +kernel : kitB "str" "tuple" = some false)⟩
  | tup h r => exact ⟨_, tyx_tup h, kit_ty (by decide +kernel : kitB "tuple" "tuple" = some true)⟩
end

/-! ### fields and forms -/
def nms : List Str := ["halt", "add", "sub", "mul", "div", "mod", "rem", "less", "equal", "high", "low", "load", "store", "jump", "branch", "call", "save", "restore", "back", "raise", "again", "tick", "put", "get", "below", "above", "bar", "setbar", "retry"]
def nmS (k : Nat) : Str := nms.getD k ""
def fS (f : Nat) : Str := (["d", "a", "reg", "int", "part", "far", "distance", "number", "source"] : List Str).getD f ""
def fSh (f : Nat) : Int := ([21, 16, 0, 0, 0, 0, 0, 0] : List Int).getD f 0
def fMn (f : Nat) : Int := ([5, 5, 15, 15, 15, 21, 26, 26] : List Int).getD f 0
def fLo (f : Nat) : Int := ([0, 0, 0, -16384, 0, -1048576, -33554432, 0] : List Int).getD f 0
def fHi (f : Nat) : Int := ([31, 31, 31, 16383, 2047, 1048575, 33554431, 67108863] : List Int).getD f 0
def fm (k : Nat) : List Nat := ([[], [0, 1, 8], [0, 1, 8], [0, 1, 8], [0, 1, 8], [0, 1, 8], [0, 1, 8], [0, 1, 8], [0, 1, 8], [0, 5], [0, 1, 4], [0, 1, 8], [0, 1, 8], [6], [0, 5], [7], [0, 1, 8], [], [], [7], [1, 8], [], [8], [0], [1, 8], [1, 8], [0], [8], []] : List (List Nat)).getD k []
theorem fs_src : ∀ f : _root_.Fin 9, decide (V.str (fS f.val) = V.str "source") = decide (f.val = 8) := by decide +kernel
theorem fs_flag : ∀ f : _root_.Fin 8, inV (.str (fS f.val)) [V.str "int", V.str "part"] = decide (f.val = 3 ∨ f.val = 4) := by decide +kernel
theorem nm_first : ∀ k : _root_.Fin 29, nms[k.val]? = some (nmS k.val) ∧ ∀ m : _root_.Fin 29, m.val < k.val → nms[m.val]? ≠ some (nmS k.val) := by decide +kernel
theorem fm_lt : ∀ k : _root_.Fin 29, ∀ f ∈ fm k.val, f < 9 := by decide +kernel
theorem mask5 (x : Int) : Builtin.bitAnd x 31 = x % 32 := PyProof.Rows.bitAnd_m5 x
theorem mask15 (x : Int) : Builtin.bitAnd x 32767 = x % 32768 := by
  by_cases c : 0 ≤ x
  · rw [PyProof.Rows.bitAnd_pp c (by decide), show x.toNat &&& (32767 : Int).toNat = x.toNat % 32768 from Nat.and_two_pow_sub_one_eq_mod x.toNat 15]; omega
  · rw [PyProof.Rows.bitAnd_np c (by decide), show (32767 : Int).toNat &&& (Builtin.bitNot x).toNat = (Builtin.bitNot x).toNat % 32768 by rw [Nat.and_comm]; exact Nat.and_two_pow_sub_one_eq_mod (Builtin.bitNot x).toNat 15]; unfold Builtin.bitNot; omega
theorem mask21 (x : Int) : Builtin.bitAnd x 2097151 = x % 2097152 := by
  by_cases c : 0 ≤ x
  · rw [PyProof.Rows.bitAnd_pp c (by decide), show x.toNat &&& (2097151 : Int).toNat = x.toNat % 2097152 from Nat.and_two_pow_sub_one_eq_mod x.toNat 21]; omega
  · rw [PyProof.Rows.bitAnd_np c (by decide), show (2097151 : Int).toNat &&& (Builtin.bitNot x).toNat = (Builtin.bitNot x).toNat % 2097152 by rw [Nat.and_comm]; exact Nat.and_two_pow_sub_one_eq_mod (Builtin.bitNot x).toNat 21]; unfold Builtin.bitNot; omega
theorem mask26 (x : Int) : Builtin.bitAnd x 67108863 = x % 67108864 := by
  by_cases c : 0 ≤ x
  · rw [PyProof.Rows.bitAnd_pp c (by decide), show x.toNat &&& (67108863 : Int).toNat = x.toNat % 67108864 from Nat.and_two_pow_sub_one_eq_mod x.toNat 26]; omega
  · rw [PyProof.Rows.bitAnd_np c (by decide), show (67108863 : Int).toNat &&& (Builtin.bitNot x).toNat = (Builtin.bitNot x).toNat % 67108864 by rw [Nat.and_comm]; exact Nat.and_two_pow_sub_one_eq_mod (Builtin.bitNot x).toNat 26]; unfold Builtin.bitNot; omega
def fMod (f : Nat) : Int := ([32, 32, 32768, 32768, 32768, 2097152, 67108864, 67108864] : List Int).getD f 1
def fMul (f : Nat) : Int := ([2097152, 65536, 1, 1, 1, 1, 1, 1] : List Int).getD f 1
theorem bits_and (f : Nat) (h : f < 8) (x : Int) : Builtin.bitAnd x (1 * 2 ^ (fMn f).toNat - 1) * 2 ^ (fSh f).toNat = x % fMod f * fMul f := by
  match f, h with
  | 0, _ => exact congrArg (· * (2097152 : Int)) (mask5 x)
  | 1, _ => exact congrArg (· * (65536 : Int)) (mask5 x)
  | 2, _ => exact congrArg (· * (1 : Int)) (mask15 x)
  | 3, _ => exact congrArg (· * (1 : Int)) (mask15 x)
  | 4, _ => exact congrArg (· * (1 : Int)) (mask15 x)
  | 5, _ => exact congrArg (· * (1 : Int)) (mask21 x)
  | 6, _ => exact congrArg (· * (1 : Int)) (mask26 x)
  | 7, _ => exact congrArg (· * (1 : Int)) (mask26 x)
theorem fsh_ok : ∀ f : _root_.Fin 8, 0 ≤ fSh f.val ∧ fSh f.val ≤ 1000000 ∧ 0 ≤ fMn f.val ∧ fMn f.val ≤ 1000000 := by decide +kernel
theorem and_small (f : Nat) (h : f < 8) (x : Int) : (Builtin.bitAnd x (1 * 2 ^ (fMn f).toNat - 1)).natAbs < 2 ^ 64 := by
  have hm : ∀ m : Int, 0 < m → m < 2 ^ 60 → (x % m).natAbs < 2 ^ 64 := fun m h1 h2 => by
    have := Int.emod_nonneg x (b := m) (by omega)
    have := Int.emod_lt_of_pos x h1
    omega
  match f, h with
  | 0, _ => exact (congrArg (fun z : Int => z.natAbs < 2 ^ 64) (mask5 x)).mpr (hm _ (by decide) (by decide))
  | 1, _ => exact (congrArg (fun z : Int => z.natAbs < 2 ^ 64) (mask5 x)).mpr (hm _ (by decide) (by decide))
  | 2, _ => exact (congrArg (fun z : Int => z.natAbs < 2 ^ 64) (mask15 x)).mpr (hm _ (by decide) (by decide))
  | 3, _ => exact (congrArg (fun z : Int => z.natAbs < 2 ^ 64) (mask15 x)).mpr (hm _ (by decide) (by decide))
  | 4, _ => exact (congrArg (fun z : Int => z.natAbs < 2 ^ 64) (mask15 x)).mpr (hm _ (by decide) (by decide))
  | 5, _ => exact (congrArg (fun z : Int => z.natAbs < 2 ^ 64) (mask21 x)).mpr (hm _ (by decide) (by decide))
  | 6, _ => exact (congrArg (fun z : Int => z.natAbs < 2 ^ 64) (mask26 x)).mpr (hm _ (by decide) (by decide))
  | 7, _ => exact (congrArg (fun z : Int => z.natAbs < 2 ^ 64) (mask26 x)).mpr (hm _ (by decide) (by decide))
/-- what stands in a field: a number, or an operand's kind (an int: true) and number -/
inductive Ar where
  | n (x : Int)
  | s (b : Bool) (x : Int)
def okF (f : Nat) (x : Int) : Bool := cond (decide (fLo f ≤ x)) (decide (x ≤ fHi f)) false
def bitF (f : Nat) (x : Int) : Int := if decide (f = 3 ∨ f = 4) = true then x % fMod f * fMul f + 32768 else x % fMod f * fMul f
def kdS (b : Bool) : Nat := if b = true then 3 else 2
def okA : Nat → Ar → Bool
  | f, .n x => okF f x
  | _, .s b x => okF (kdS b) x
def bitA : Nat → Ar → Int
  | f, .n x => bitF f x
  | _, .s b x => bitF (kdS b) x
def wtA : Nat → Ar → Prop
  | f, .n _ => f < 8
  | f, .s _ _ => f = 8
def sumB : List Nat → List Ar → Int
  | f :: fs, x :: xs => bitA f x + sumB fs xs
  | _, _ => 0
def okS : List Nat → List Ar → Bool
  | f :: fs, x :: xs => cond (okA f x) (okS fs xs) false
  | _, _ => true
def wtS : List Nat → List Ar → Prop
  | [], [] => True
  | f :: fs, x :: xs => wtA f x ∧ wtS fs xs
  | _, _ => False
def encV (k : Nat) (xs : List Ar) : Int := (k : Int) * 67108864 + sumB (fm k) xs
inductive ArV (K : PySem.W.Frag) (H : Hp) : V → Ar → Prop
  | n (x : Int) : ArV K H (.int x) (.n x)
  | s {p : Addr} {b : Bool} {x : Int} (h : SqT K H p [.str (fS (kdS b)), .int x]) : ArV K H (.ref p) (.s b x)
theorem ArV.same {K : PySem.W.Frag} {H H' : Hp} {v : V} {x : Ar} (h : ArV K H v x) (s : Same H H') : ArV K H' v x := by
  cases h with
  | n x => exact .n x
  | s h => exact .s (seqT s h)
inductive ArVs (K : PySem.W.Frag) (H : Hp) : List V → List Ar → Prop
  | nil : ArVs K H [] []
  | cons {v : V} {vs : List V} {x : Ar} {xs : List Ar} : ArV K H v x → ArVs K H vs xs → ArVs K H (v :: vs) (x :: xs)
theorem ArVs.same {K : PySem.W.Frag} {H H' : Hp} (s : Same H H') : ∀ {vs : List V} {xs : List Ar}, ArVs K H vs xs → ArVs K H' vs xs
  | _, _, .nil => .nil
  | _, _, .cons h r => .cons (h.same s) (r.same s)
theorem ArVs.len {K : PySem.W.Frag} {H : Hp} : ∀ {vs : List V} {xs : List Ar}, ArVs K H vs xs → vs.length = xs.length
  | _, _, .nil => rfl
  | _, _, .cons _ r => congrArg (· + 1) r.len
theorem ArVs.get {K : PySem.W.Frag} {H : Hp} : ∀ {vs : List V} {xs : List Ar} {i : Nat} {v : V}, ArVs K H vs xs → vs[i]? = some v → ∃ x, xs[i]? = some x ∧ ArV K H v x
  | _, _, _, _, .nil, e => by simp at e
  | _, _, 0, _, .cons h _, e => by
    obtain rfl := Option.some.inj e
    exact ⟨_, rfl, h⟩
  | _, _, i + 1, v, .cons _ r, e => by
    obtain ⟨x, h1, h2⟩ := r.get (i := i) (v := v) (by simpa using e)
    exact ⟨x, by simpa using h1, h2⟩
theorem wtS.len : ∀ {fs : List Nat} {xs : List Ar}, wtS fs xs → fs.length = xs.length
  | [], [], _ => rfl
  | _ :: _, _ :: _, h => congrArg (· + 1) (wtS.len h.2)
  | [], _ :: _, h => h.elim
  | _ :: _, [], h => h.elim
theorem wtS.get : ∀ {fs : List Nat} {xs : List Ar} {i : Nat} {f : Nat} {x : Ar}, wtS fs xs → fs[i]? = some f → xs[i]? = some x → wtA f x
  | f0 :: fs, x0 :: xs, 0, f, x, h, e1, e2 => by
    obtain rfl := Option.some.inj e1
    obtain rfl := Option.some.inj e2
    exact h.1
  | f0 :: fs, x0 :: xs, i + 1, f, x, h, e1, e2 => wtS.get (i := i) h.2 (by simpa using e1) (by simpa using e2)
  | [], _, _, _, _, _, e1, _ => by simp at e1
  | _ :: _, [], _, _, _, h, _, _ => h.elim
theorem sum_take : ∀ (fs : List Nat) (xs : List Ar) (i f : Nat) (x : Ar), fs[i]? = some f → xs[i]? = some x → sumB (fs.take (i + 1)) (xs.take (i + 1)) = sumB (fs.take i) (xs.take i) + bitA f x
  | f0 :: fs, x0 :: xs, 0, f, x, e1, e2 => by
    obtain rfl := Option.some.inj e1
    obtain rfl := Option.some.inj e2
    show bitA f0 x0 + sumB (fs.take 0) (xs.take 0) = 0 + bitA f0 x0
    rw [List.take_zero]
    show bitA f0 x0 + 0 = 0 + bitA f0 x0
    omega
  | f0 :: fs, x0 :: xs, i + 1, f, x, e1, e2 => by
    have := sum_take fs xs i f x (by simpa using e1) (by simpa using e2)
    show bitA f0 x0 + sumB (fs.take (i + 1)) (xs.take (i + 1)) = bitA f0 x0 + sumB (fs.take i) (xs.take i) + bitA f x
    omega
  | [], _, _, _, _, e1, _ => by simp at e1
  | _ :: _, [], _, _, _, _, e2 => by simp at e2
theorem okS_at : ∀ (fs : List Nat) (xs : List Ar) (i f : Nat) (x : Ar), fs[i]? = some f → xs[i]? = some x → okS fs xs = true → okA f x = true
  | f0 :: fs, x0 :: xs, 0, f, x, e1, e2, h => by
    obtain rfl := Option.some.inj e1
    obtain rfl := Option.some.inj e2
    cases c : okA f0 x0 with
    | true => rfl
    | false => have h' : cond (okA f0 x0) (okS fs xs) false = true := h; rw [c] at h'; exact h'
  | f0 :: fs, x0 :: xs, i + 1, f, x, e1, e2, h => by
    refine okS_at fs xs i f x (by simpa using e1) (by simpa using e2) ?_
    have h' : cond (okA f0 x0) (okS fs xs) false = true := h
    cases c : okA f0 x0 with
    | true => rw [c] at h'; exact h'
    | false => rw [c] at h'; exact nomatch h'
  | [], _, _, _, _, e1, _, _ => by simp at e1
  | _ :: _, [], _, _, _, _, e2, _ => by simp at e2
theorem okS_all : ∀ (fs : List Nat) (xs : List Ar), fs.length = xs.length → (∀ (i f : Nat) (x : Ar), fs[i]? = some f → xs[i]? = some x → okA f x = true) → okS fs xs = true
  | [], _, _, _ => rfl
  | _ :: _, [], h, _ => nomatch h
  | f :: fs, x :: xs, h, k => by
    show cond (okA f x) (okS fs xs) false = true
    rw [k 0 f x rfl rfl]
    exact okS_all fs xs (Nat.succ.inj h) fun i g y e1 e2 => k (i + 1) g y (by simpa using e1) (by simpa using e2)
def spBits (K : PySem.W.Frag) (C : Addr) (n : Nat) : Sp := fun vs H Q E => ∃ (f : Nat) (v : V) (x : Ar), f < 9 ∧ vs = [.str (fS f), v] ∧ ArV K H v x ∧ wtA f x ∧ (f < 8 ∨ n = 1) ∧ ∀ H', Same H H' → (okA f x = true → Q (.int (bitA f x)) H') ∧ (okA f x = false → E (.ref C) none H')
def spEnc (K : PySem.W.Frag) (C : Addr) : Sp := fun vs H Q E => ∃ (ip : Addr) (k : Nat) (ws : List V) (xs : List Ar), k < 29 ∧ vs = [.ref ip] ∧ SqT K H ip (.str (nmS k) :: ws) ∧ ArVs K H ws xs ∧ wtS (fm k) xs ∧ ∀ H', Same H H' → (okS (fm k) xs = true → Q (.int (encV k xs)) H') ∧ (okS (fm k) xs = false → E (.ref C) none H')
def spEncC (K : PySem.W.Frag) : Sp := fun vs H Q _ => ∃ (ip : Addr) (k : Nat) (ws : List V) (xs : List Ar), k < 29 ∧ vs = [.ref ip] ∧ SqT K H ip (.str (nmS k) :: ws) ∧ ArVs K H ws xs ∧ wtS (fm k) xs ∧ okS (fm k) xs = true ∧ ∀ H', Same H H' → Q (.int (encV k xs)) H'
section
variable {P : Program} {w : World} {K : PySem.W.Frag} {mg : Str → Option Value} {base : Heap} {a : Ad}
theorem field_at (T : Txt w K mg a) : ∀ f, f < 8 → ∃ p, KDct K w a.c_FIELDS (fS f) (.ref p) ∧ ∀ H : Hp, SqT K H p [.int (fSh f), .int (fMn f), .int (fLo f), .int (fHi f)]
  | 0, _ => ⟨_, T.kd_FIELDS_d, T.q_FIELDS_d⟩
  | 1, _ => ⟨_, T.kd_FIELDS_a, T.q_FIELDS_a⟩
  | 2, _ => ⟨_, T.kd_FIELDS_reg, T.q_FIELDS_reg⟩
  | 3, _ => ⟨_, T.kd_FIELDS_int, T.q_FIELDS_int⟩
  | 4, _ => ⟨_, T.kd_FIELDS_part, T.q_FIELDS_part⟩
  | 5, _ => ⟨_, T.kd_FIELDS_far, T.q_FIELDS_far⟩
  | 6, _ => ⟨_, T.kd_FIELDS_distance, T.q_FIELDS_distance⟩
  | 7, _ => ⟨_, T.kd_FIELDS_number, T.q_FIELDS_number⟩
  | f + 8, h => by omega
theorem form_at (T : Txt w K mg a) : ∀ k, k < 29 → ∃ p, KDct K w a.c_FORMS (nmS k) (.ref p) ∧ ∀ H : Hp, SqT K H p ((fm k).map fun f => V.str (fS f))
  | 0, _ => ⟨_, T.kd_FORMS_halt, T.q_FORMS_halt⟩
  | 1, _ => ⟨_, T.kd_FORMS_add, T.q_FORMS_add⟩
  | 2, _ => ⟨_, T.kd_FORMS_sub, T.q_FORMS_sub⟩
  | 3, _ => ⟨_, T.kd_FORMS_mul, T.q_FORMS_mul⟩
  | 4, _ => ⟨_, T.kd_FORMS_div, T.q_FORMS_div⟩
  | 5, _ => ⟨_, T.kd_FORMS_mod, T.q_FORMS_mod⟩
  | 6, _ => ⟨_, T.kd_FORMS_rem, T.q_FORMS_rem⟩
  | 7, _ => ⟨_, T.kd_FORMS_less, T.q_FORMS_less⟩
  | 8, _ => ⟨_, T.kd_FORMS_equal, T.q_FORMS_equal⟩
  | 9, _ => ⟨_, T.kd_FORMS_high, T.q_FORMS_high⟩
  | 10, _ => ⟨_, T.kd_FORMS_low, T.q_FORMS_low⟩
  | 11, _ => ⟨_, T.kd_FORMS_load, T.q_FORMS_load⟩
  | 12, _ => ⟨_, T.kd_FORMS_store, T.q_FORMS_store⟩
  | 13, _ => ⟨_, T.kd_FORMS_jump, T.q_FORMS_jump⟩
  | 14, _ => ⟨_, T.kd_FORMS_branch, T.q_FORMS_branch⟩
  | 15, _ => ⟨_, T.kd_FORMS_call, T.q_FORMS_call⟩
  | 16, _ => ⟨_, T.kd_FORMS_save, T.q_FORMS_save⟩
  | 17, _ => ⟨_, T.kd_FORMS_restore, T.q_FORMS_restore⟩
  | 18, _ => ⟨_, T.kd_FORMS_back, T.q_FORMS_back⟩
  | 19, _ => ⟨_, T.kd_FORMS_raise, T.q_FORMS_raise⟩
  | 20, _ => ⟨_, T.kd_FORMS_again, T.q_FORMS_again⟩
  | 21, _ => ⟨_, T.kd_FORMS_tick, T.q_FORMS_tick⟩
  | 22, _ => ⟨_, T.kd_FORMS_put, T.q_FORMS_put⟩
  | 23, _ => ⟨_, T.kd_FORMS_get, T.q_FORMS_get⟩
  | 24, _ => ⟨_, T.kd_FORMS_below, T.q_FORMS_below⟩
  | 25, _ => ⟨_, T.kd_FORMS_above, T.q_FORMS_above⟩
  | 26, _ => ⟨_, T.kd_FORMS_bar, T.q_FORMS_bar⟩
  | 27, _ => ⟨_, T.kd_FORMS_setbar, T.q_FORMS_setbar⟩
  | 28, _ => ⟨_, T.kd_FORMS_retry, T.q_FORMS_retry⟩
  | k + 29, h => by omega
end

/-! ### ranges and numbers -/
def rgs (k : Nat) (b : Bool) : List Nat := (fm k).map fun f => if f = 8 then kdS b else f
def arL (b : Bool) : List Nat → List Int → List Ar
  | f :: fs, x :: xs => (if f = 8 then .s b x else .n x) :: arL b fs xs
  | _, _ => []
def okN (b : Bool) : List Nat → List Int → Bool
  | f :: fs, x :: xs => cond (okF (if f = 8 then kdS b else f) x) (okN b fs xs) false
  | _, _ => true
theorem arL_len {b : Bool} : ∀ {fs : List Nat} {ns : List Int}, fs.length = ns.length → (arL b fs ns).length = ns.length
  | [], [], _ => rfl
  | _ :: fs, _ :: ns, h => congrArg (· + 1) (arL_len (fs := fs) (ns := ns) (Nat.succ.inj h))
  | [], _ :: _, h => nomatch h
  | _ :: _, [], h => nomatch h
theorem arL_wt {b : Bool} : ∀ {fs : List Nat} {ns : List Int}, (∀ f ∈ fs, f < 9) → fs.length = ns.length → wtS fs (arL b fs ns)
  | [], [], _, _ => trivial
  | f :: fs, n :: ns, h9, h => by
    refine ⟨?_, arL_wt (fun g hg => h9 g (List.mem_cons_of_mem _ hg)) (Nat.succ.inj h)⟩
    have := h9 f List.mem_cons_self
    by_cases c : f = 8
    · rw [if_pos c]; exact c
    · rw [if_neg c]; show f < 8; omega
  | [], _ :: _, _, h => nomatch h
  | _ :: _, [], _, h => nomatch h
theorem arL_ok {b : Bool} : ∀ (fs : List Nat) (ns : List Int), okS fs (arL b fs ns) = okN b fs ns
  | [], _ => rfl
  | _ :: _, [] => rfl
  | f :: fs, n :: ns => by
    show cond (okA f (if f = 8 then .s b n else .n n)) (okS fs (arL b fs ns)) false = cond (okF (if f = 8 then kdS b else f) n) (okN b fs ns) false
    rw [arL_ok fs ns]
    by_cases c : f = 8
    · rw [if_pos c, if_pos c]; rfl
    · rw [if_neg c, if_neg c]; rfl
theorem arv_plain {K : PySem.W.Frag} {H : Hp} {b : Bool} : ∀ {fs : List Nat} {ns : List Int}, (∀ f ∈ fs, f < 8) → fs.length = ns.length → ArVs K H (ns.map V.int) (arL b fs ns)
  | [], [], _, _ => .nil
  | f :: fs, n :: ns, h8, h => by
    have := h8 f List.mem_cons_self
    have r := arv_plain (K := K) (H := H) (b := b) (fs := fs) (ns := ns) (fun g hg => h8 g (List.mem_cons_of_mem _ hg)) (Nat.succ.inj h)
    show ArVs K H (.int n :: ns.map V.int) ((if f = 8 then .s b n else .n n) :: arL b fs ns)
    rw [if_neg (by omega)]
    exact .cons (.n n) r
  | [], _ :: _, _, h => nomatch h
  | _ :: _, [], _, h => nomatch h
theorem arv_src {K : PySem.W.Frag} {H : Hp} {b : Bool} {p : Addr} {x : Int} (hp : SqT K H p [.str (fS (kdS b)), .int x]) : ∀ {fs : List Nat} {ns : List Int}, (∀ f ∈ fs, f < 8) → fs.length = ns.length → ArVs K H (ns.map V.int ++ [.ref p]) (arL b (fs ++ [8]) (ns ++ [x]))
  | [], [], _, _ => .cons (.s hp) .nil
  | f :: fs, n :: ns, h8, h => by
    have := h8 f List.mem_cons_self
    have r := arv_src (b := b) hp (fs := fs) (ns := ns) (fun g hg => h8 g (List.mem_cons_of_mem _ hg)) (Nat.succ.inj h)
    show ArVs K H (.int n :: (ns.map V.int ++ [.ref p])) ((if f = 8 then .s b n else .n n) :: arL b (fs ++ [8]) (ns ++ [x]))
    rw [if_neg (by omega)]
    exact .cons (.n n) r
  | [], _ :: _, _, h => nomatch h
  | _ :: _, [], _, h => nomatch h
def srcL (k : Nat) : Bool := decide ((fm k).getLast? = some 8)
theorem in_plain : ∀ k : _root_.Fin 29, (fm k.val).length ≠ 0 → inV (.str (nmS k.val)) [V.str "get", V.str "bar", V.str "jump", V.str "call", V.str "raise", V.str "high", V.str "branch", V.str "low"] = !srcL k.val := by decide +kernel
theorem src_form : ∀ k : _root_.Fin 29, (srcL k.val = true → fm k.val = (fm k.val).dropLast ++ [8] ∧ ∀ f ∈ (fm k.val).dropLast, f < 8) ∧ (srcL k.val = false → ∀ f ∈ fm k.val, f < 8) := by decide +kernel
theorem in_none : ∀ k : _root_.Fin 29, inV (.str (nmS k.val)) [V.str "halt", V.str "restore", V.str "back", V.str "tick", V.str "retry"] = decide (k.val ∈ ([0, 17, 18, 21, 28] : List Nat)) := by decide +kernel
theorem in_two : ∀ k : _root_.Fin 29, inV (.str (nmS k.val)) [V.str "again", V.str "below", V.str "above"] = decide (k.val ∈ ([20, 24, 25] : List Nat)) := by decide +kernel
theorem in_one : ∀ k : _root_.Fin 29, inV (.str (nmS k.val)) [V.str "jump", V.str "call", V.str "raise"] = decide (k.val ∈ ([13, 15, 19] : List Nat)) := by decide +kernel
theorem eq_get : ∀ k : _root_.Fin 29, decide (V.str (nmS k.val) = V.str "get") = decide (k.val = 23) := by decide +kernel
theorem eq_bar : ∀ k : _root_.Fin 29, decide (V.str (nmS k.val) = V.str "bar") = decide (k.val = 26) := by decide +kernel
theorem eq_put : ∀ k : _root_.Fin 29, decide (V.str (nmS k.val) = V.str "put") = decide (k.val = 22) := by decide +kernel
theorem eq_setbar : ∀ k : _root_.Fin 29, decide (V.str (nmS k.val) = V.str "setbar") = decide (k.val = 27) := by decide +kernel
theorem eq_jump : ∀ k : _root_.Fin 29, decide (V.str (nmS k.val) = V.str "jump") = decide (k.val = 13) := by decide +kernel
theorem eq_call : ∀ k : _root_.Fin 29, decide (V.str (nmS k.val) = V.str "call") = decide (k.val = 15) := by decide +kernel
theorem eq_raise : ∀ k : _root_.Fin 29, decide (V.str (nmS k.val) = V.str "raise") = decide (k.val = 19) := by decide +kernel
theorem eq_high : ∀ k : _root_.Fin 29, decide (V.str (nmS k.val) = V.str "high") = decide (k.val = 9) := by decide +kernel
theorem eq_branch : ∀ k : _root_.Fin 29, decide (V.str (nmS k.val) = V.str "branch") = decide (k.val = 14) := by decide +kernel
theorem eq_low : ∀ k : _root_.Fin 29, decide (V.str (nmS k.val) = V.str "low") = decide (k.val = 10) := by decide +kernel
theorem kd_int : ∀ b : Bool, decide (V.str (fS (kdS b)) = V.str "int") = b := by decide +kernel
theorem names_split : Txt.split (Str.ofString "halt add sub mul div mod rem less equal high low load store jump branch call save restore back raise again" ++ Str.ofString " tick put get below above bar setbar retry") (Str.ofString " ") = nms := by decide +kernel
/-! the classes of names, by their forms -/
theorem fc_none : ∀ k : _root_.Fin 29, k.val ∈ ([0, 17, 18, 21, 28] : List Nat) → fm k.val = [] := by decide +kernel
theorem fc_two : ∀ k : _root_.Fin 29, k.val ∈ ([20, 24, 25] : List Nat) → fm k.val = [1, 8] := by decide +kernel
theorem fc_one : ∀ k : _root_.Fin 29, k.val ∈ ([13, 15, 19] : List Nat) → fm k.val = [6] ∨ fm k.val = [7] := by decide +kernel
theorem fc_rest : ∀ k : _root_.Fin 29, ¬ k.val ∈ ([0, 17, 18, 21, 28, 23, 26, 22, 27, 20, 24, 25, 13, 15, 19, 9, 14, 10] : List Nat) → fm k.val = [0, 1, 8] := by decide +kernel
theorem nm_flat : ∀ k : _root_.Fin 29, nms[k.val]? = some (nmS k.val) := by decide +kernel
theorem nms_len : nms.length = 29 := rfl
theorem dec_or {p q : Prop} [Decidable p] [Decidable q] (h : decide p = false) (h2 : decide q = false) : ¬ p ∧ ¬ q := ⟨of_decide_eq_false h, of_decide_eq_false h2⟩

/-! ### slices -/
theorem cut_lo (xs : List V) (a : Nat) : cutV xs (some (a : Int)) none = xs.drop a := by
  unfold cutV
  rw [HT.sIx_nat, HT.sIx_none]
  by_cases h : a ≤ xs.length
  · rw [Nat.min_eq_left h, List.take_of_length_le (by rw [List.length_drop]; omega)]
  · rw [Nat.min_eq_right (by omega), List.drop_eq_nil_of_le (Nat.le_refl _), List.drop_eq_nil_of_le (show xs.length ≤ a by omega), List.take_nil]
theorem cut_hi (xs : List V) (b : Nat) : cutV xs none (some (b : Int)) = xs.take b := by
  unfold cutV
  rw [HT.sIx_nat, HT.sIx_none, List.drop_zero, Nat.sub_zero]
  by_cases h : b ≤ xs.length
  · rw [Nat.min_eq_left h]
  · rw [Nat.min_eq_right (by omega), List.take_of_length_le (Nat.le_refl _), List.take_of_length_le (show xs.length ≤ b by omega)]
theorem cut_mid (xs : List V) (a b : Nat) (h : a ≤ b) (h2 : b ≤ xs.length) : cutV xs (some (a : Int)) (some (b : Int)) = (xs.drop a).take (b - a) := by
  unfold cutV
  rw [HT.sIx_nat, HT.sIx_nat, Nat.min_eq_left (show a ≤ xs.length by omega), Nat.min_eq_left h2]
theorem rep_int (n : Nat) : (List.replicate n [V.int 0]).flatten = (List.replicate n (0 : Int)).map V.int := by
  induction n with
  | zero => rfl
  | succ n ih => rw [List.replicate_succ, List.flatten_cons, ih, List.replicate_succ]; rfl
theorem at_map {ys : List Int} {j : Nat} (h : j < ys.length) : (ys.map V.int)[j]? = some (V.int (ys.getD j 0)) := by
  rw [List.getElem?_map, List.getD_eq_getElem?_getD, List.getElem?_eq_getElem h] <;> rfl
theorem ixN_nat {n j : Nat} (h : j < n) : ixN n (j : Int) = some j := by
  unfold ixN
  rw [if_pos (by omega), if_pos (by omega), Int.toNat_natCast]
theorem set_int {ys : List Int} {j : Nat} {w : Int} : (ys.map V.int).set j (V.int w) = (ys.set j w).map V.int := by rw [List.map_set]
theorem sz {n : Nat} (h : n ≤ 900) : n < sizeLine := small1000 (by omega)

section
variable {P : Program} {w : World} {K : PySem.W.Frag} {mg : Str → Option Value} {base : Heap} {a : Ad}
theorem ok_bits_aux (T : Txt w K mg a) (n k : Nat) (sp' : Sp) (G_bits_of : FnOk P w K mg base (L2.CX P w) k a.f_bits_of a.d_bits_of ["field", "part"] sp') (hG : n = 1 → ∀ vs H Q E, spBits K a.C_ImageError 0 vs H Q E → sp' vs H Q E) :
    FnOk P w K mg base (L2.CX P w) (k + 1) a.f_bits_of a.d_bits_of ["field", "part"] (spBits K a.C_ImageError n) := by
  refine T.F__bits_of.okX sc_bits_of (fun vs H Q E h => ?_) (fun cdv A outer s H vs Q E hr h => ?_)
  · obtain ⟨_, _, _, _, rfl, _⟩ := h; rfl
  · obtain ⟨f, v, x, hf, rfl, hv, wt, hn, q⟩ := h
    refine ⟨_, (pss_cons (ps_if (pt_cmpR op_eq (pv 0) pe_str (nomark _)) (pss_cons (ps_asg (pv 1) (pg_tup rfl (pgs_cons (pg_name (i := 2) sc_bits_of.nd rfl (Or.inl rfl)) (pgs_cons (pg_name (i := 3) sc_bits_of.nd rfl (Or.inl rfl)) pgs_nil))))
      (pss_one (ps_ret (pe_call G_bits_of hr rfl T.g__bits_of T.k__bits_of T.bd__bits_of .nil (passes_call (takes_of rfl rfl rfl rfl) fun _ _ _ _ z => z) (pa_cons (pv 2) (pa_cons (pv 3) pa_nil)))))) pss_nil)
      (pss_cons (ps_asg (pe_ix ix_kdict (pe_glob (v := .ref a.c_FIELDS) rfl T.g_FIELDS rfl) (pv 0) (fun _ _ => rfl)) (pg_tup rfl (pgs_cons (pg_name (i := 4) sc_bits_of.nd rfl (Or.inl rfl)) (pgs_cons (pg_name (i := 5) sc_bits_of.nd rfl (Or.inl rfl)) (pgs_cons (pg_name (i := 6) sc_bits_of.nd rfl (Or.inl rfl)) (pgs_cons (pg_name (i := 7) sc_bits_of.nd rfl (Or.inl rfl)) pgs_nil))))))
      (pss_cons (ps_if (pt_not (pt_chain op_le op_le (pv 6) (pv 1) (pv 7))) (pss_one (ps_raise rfl (takes_of rfl rfl rfl rfl) (SkE.pmk_own1 PySem.F.excBase_ValueError T.x_ImageError T.g_ImageError T.kC_ImageError (raises_own T.s1_ImageError T.ty_ImageError) rfl (pe_joined (.cons pe_str (.cons (pe_fmt (pv 0)) .nil)))))) pss_nil)
      (pss_cons (ps_set (i := 8) sc_bits_of.nd rfl (Or.inl rfl) (pe_op op_shl (pe_op op_and (pv 1) (pe_op op_sub (pe_op op_shl pe_int (pv 5)) pe_int)) (pv 4)))
      (pss_one (ps_ret (pe_ifExp (pt_cmpR op_inS (pv 0) (pe_tup (pa_cons pe_str (pa_cons pe_str pa_nil))) rfl) (pe_op op_add (pv 8) (pe_glob (v := .int (32768)) rfl T.g_FLAG ⟨_, rfl⟩)) (pv 8)))))))), ?_⟩
    refine ⟨_, rfl, rfl, _, rfl, ?_⟩
    rw [fs_src ⟨f, hf⟩]
    refine ite3 (fun e => ?_) (fun e => ?_)
    · obtain rfl : f = 8 := of_decide_eq_true e
      have n1 : n = 1 := by omega
      cases hv with
      | n x => exact absurd wt (by show ¬ (8 : Nat) < 8; omega)
      | @s p b x h =>
        refine ⟨_, rfl, p, _, rfl, h, rfl, _, _, rfl, _, _, rfl, rfl, ?_⟩
        refine ⟨_, rfl, _, rfl, hG n1 _ _ _ _ ⟨kdS b, _, .n x, by unfold kdS; split <;> decide, rfl, .n x, by show kdS b < 8; unfold kdS; split <;> decide, .inl (by unfold kdS; split <;> decide), q⟩⟩
    have h8 : f < 8 := by have := of_decide_eq_false e; simp only at this; omega
    cases hv with
    | @s p b x h => exact absurd wt (by show ¬ f = 8; omega)
    | n x =>
      have q : ∀ H', Same H H' → (okF f x = true → Q (.int (bitF f x)) H') ∧ (okF f x = false → E (.ref a.C_ImageError) none H') := q
      obtain ⟨p, hk, hp⟩ := field_at T f h8
      obtain ⟨s0, s1, m0, m1⟩ := fsh_ok ⟨f, h8⟩
      have hfs : ∀ f : _root_.Fin 9, (Str.empty ++ Str.ofString "a number does not fit into the field ").length ≤ sizeLine ∧ (fS f.val).length ≤ sizeLine ∧ (Str.empty ++ Str.ofString "a number does not fit into the field " ++ fS f.val).length ≤ sizeLine := by decide +kernel
      refine ⟨_, rfl, _, _, _, rfl, rfl, hk, p, _, rfl, hp _, rfl, _, _, rfl, _, _, rfl, _, _, rfl, _, _, rfl, rfl, ?_⟩
      unfold okF at q
      have bad : ∀ (D : Ends) (σ : St), σ[0]? = some (some (V.str (fS f))) → (okF f x = false) → tJs [tC (.str (Str.ofString "a number does not fit into the field ")), tFmt (tVar 0)] Str.empty σ H (fun _ H' => E (.ref a.C_ImageError) none H') := fun D σ hσ hb =>
        ⟨_, rfl, (hfs ⟨f, hf⟩).1, _, hσ, .inl ⟨_, rfl, (hfs ⟨f, hf⟩).2.1, _, rfl, (hfs ⟨f, hf⟩).2.2, (q H (Same.refl H)).2 hb⟩⟩
      refine ⟨_, rfl, _, rfl, _, _, rfl, rfl, _, rfl, ite3 (fun e1 => ?_) (fun e1 => ?_)⟩
      · have e1' : decide (fLo f ≤ x) = true := e1
        refine ⟨_, rfl, _, _, rfl, rfl, _, rfl, ite3 (fun e2 => ?_) (fun e2 => ?_)⟩
        · have e2' : decide (x ≤ fHi f) = false := by simpa using e2
          exact bad { nx := fun _ _ => True, rt := fun _ _ => True } _ rfl (by unfold okF; rw [e1']; exact e2')
        · have e2' : decide (x ≤ fHi f) = true := by simpa using e2
          rw [e1'] at q
          refine ⟨_, rfl, _, rfl, _, _, rfl, rfl, ⟨m0, m1, by decide⟩, _, _, rfl, rfl, _, _, rfl, rfl, _, rfl, _, _, rfl, rfl, ⟨s0, s1, and_small f h8 x⟩, ?_⟩
          refine ⟨_, rfl, (by decide), fun t nt => ⟨_, _, rfl, .inr (SqT.of upd_same), rfl, rfl, _, rfl, ?_⟩⟩
          have q' := (q _ (sN (Same.refl H) nt (o := .tup [V.str "int", V.str "part"]))).1 e2'
          unfold bitF at q'
          rw [← bits_and f h8] at q'
          rw [fs_flag ⟨f, h8⟩]
          refine ite3 (fun e3 => ?_) (fun e3 => ?_)
          · rw [if_pos e3] at q'
            exact ⟨_, rfl, _, _, rfl, rfl, q'⟩
          · rw [if_neg (by rw [e3]; exact Bool.false_ne_true)] at q'
            exact ⟨_, rfl, q'⟩
      · have e1' : decide (fLo f ≤ x) = false := e1
        exact ⟨_, rfl, iteT (bad { nx := fun _ _ => True, rt := fun _ _ => True } _ rfl (by unfold okF; rw [e1']; rfl))⟩
theorem ok_bits_of (T : Txt w K mg a) : FnOk P w K mg base (L2.CX P w) 2 a.f_bits_of a.d_bits_of ["field", "part"] (spBits K a.C_ImageError 1) :=
  ok_bits_aux T 1 1 _ (ok_bits_aux T 0 0 spNever ⟨fun _ _ _ _ h => h.elim, fun _ _ _ _ _ _ _ _ _ _ _ _ _ h => h.elim⟩ fun h => nomatch h) fun _ vs H Q E h => h
theorem cut_tail {v : V} {ws : List V} : cutV (v :: ws) (some 1) none = ws := cut_lo _ 1
theorem ok_encode (T : Txt w K mg a) : FnOk P w K mg base (L2.CX P w) 3 a.f_encode a.d_encode ["instruction"] (spEnc K a.C_ImageError) := by
  have G_bits_of : FnOk P w K mg base (L2.CX P w) 2 _ _ _ _ := ok_bits_of T
  refine T.F_encode.okX sc_encode (fun vs H Q E h => ?_) (fun cdv A outer s H vs Q E hr h => ?_)
  · obtain ⟨_, _, _, _, _, rfl, _⟩ := h; rfl
  · obtain ⟨ip, k, ws, xs, hk, rfl, hI, hw, wt, q⟩ := h
    obtain ⟨fp, kf, hf⟩ := form_at T k hk
    have lx := wt.len
    have lw := hw.len
    refine ⟨_, (pss_cons (ps_set (i := 1) sc_encode.nd rfl (Or.inl rfl) (pe_ix ix_tup (pv 0) pe_int (fun _ _ => rfl)))
      (pss_cons (ps_set (i := 2) sc_encode.nd rfl (Or.inl rfl) (pe_op op_shl (pe_bm PySem.F.plainAttrs_tuple PySem.F.slot_tuple_index PySem.F.type_tuple_index mt_tup_index (pe_glob (v := .ref a.c_NAMES) rfl T.g_NAMES rfl) (pa_cons (pv 1) pa_nil)) (pe_glob (v := .int (26)) rfl T.g_NAME_SHIFT ⟨_, rfl⟩)))
      (pss_cons (ps_for (passes_of rfl) rfl (RZ.pi_zipA rfl T.b_zip (pa_cons (pe_ix ix_kdict (pe_glob (v := .ref a.c_FORMS) rfl T.g_FORMS rfl) (pv 1) (fun _ _ => rfl)) (pa_cons (pe_slice sl_tup (pv 0) (po_some pe_int) po_none) pa_nil))) (pg_tup rfl (pgs_cons (pg_name (i := 3) sc_encode.nd rfl (Or.inl rfl)) (pgs_cons (pg_name (i := 4) sc_encode.nd rfl (Or.inl rfl)) pgs_nil))) (pss_one (ps_aug (i := 2) sc_encode.nd rfl (Or.inl rfl) (pe_call G_bits_of (hr.mono (by decide)) rfl T.g__bits_of T.k__bits_of T.bd__bits_of .nil (passes_call (takes_of rfl rfl rfl rfl) fun _ _ _ _ z => z) (pa_cons (pv 3) (pa_cons (pv 4) pa_nil))) ip_add)))
      (pss_one (ps_ret (pv 2)))))), ?_⟩
    refine ⟨_, rfl, _, _, _, _, rfl, rfl, hI, at0, ?_⟩
    obtain ⟨on, hn1, hn2, hn3⟩ := T.y_NAMES
    refine ⟨.inr (.inl ⟨rfl, on, hn1, hn2, hn3⟩), _, rfl, _, nms, nmS k, k, rfl, rfl, T.q_NAMES _, (nm_first ⟨k, hk⟩).1, ?_, _, _, rfl, rfl, ⟨by decide, by decide, by omega⟩, ?_⟩
    · intro m hm
      exact (nm_first ⟨k, hk⟩).2 ⟨m, by omega⟩ hm
    refine ⟨_, rfl, _, _, _, rfl, rfl, kf, _, rfl, _, rfl, ip, _, rfl, hI, ?_, fun p np => ?_⟩
    · intro z
      have z1 := z.1
      rw [show (some (1 : Int)) = some ((1 : Nat) : Int) from rfl, HT.sIx_nat] at z1
      simp at z1
    rw [cut_tail]
    have s0 := sN (Same.refl H) np (o := .tup ws)
    have hp : upd H p (.tup ws) p = some (.tup ws) := upd_same
    generalize upd H p (.tup ws) = H1 at s0 hp ⊢
    have h0 : (k : Int) * 2 ^ (26 : Int).toNat = (k : Int) * 67108864 + sumB ((fm k).take 0) (xs.take 0) := by
      rw [List.take_zero, show sumB [] (List.take 0 xs) = 0 from rfl, Int.add_zero]
      rfl
    refine ⟨fp, p, _, _, rfl, .inr ⟨hf _, SqT.of hp, RZ.for_zipT (K := K) (a := fp) (b := p) (xs := (fm k).map fun f => V.str (fS f)) (ys := ws) (by rw [List.length_map]; omega)
      (fun i σ H' => Same H1 H' ∧ (∀ (j f : Nat) (x : Ar), j < i → (fm k)[j]? = some f → xs[j]? = some x → okA f x = true) ∧ ∃ x y, σ = [some (.ref ip), some (.str (nmS k)), some (.int ((k : Int) * 67108864 + sumB ((fm k).take i) (xs.take i))), x, y]) ?_ ?_ ?_ ?_⟩⟩
    · exact ⟨Same.refl _, fun j f x hj => absurd hj (Nat.not_lt_zero j), none, none, congrArg (fun z => [some (V.ref ip), some (V.str (nmS k)), some (V.int z), none, none]) h0⟩
    · rintro i σ H' ⟨ss, _, _, _, _⟩
      exact ⟨hf _, SqT.of (ss _ _ hp)⟩
    · rintro i x y T1 σ H' hx hy ⟨ss, hok, x0, y0, rfl⟩ nT
      obtain ⟨f, hfi, rfl⟩ : ∃ f, (fm k)[i]? = some f ∧ x = V.str (fS f) := by
        rw [List.getElem?_map] at hx
        cases e : (fm k)[i]? with
        | none => rw [e] at hx; cases hx
        | some c => rw [e] at hx; exact ⟨c, rfl, (Option.some.inj hx).symm⟩
      have st : Same H1 (upd H' T1 (.tup [V.str (fS f), y])) := sN ss nT
      obtain ⟨z, hz, hv⟩ := (hw.same (s0.trans st)).get hy
      refine ⟨T1, _, rfl, SqT.of upd_same, rfl, _, _, rfl, _, _, rfl, rfl, ?_⟩
      refine ⟨_, rfl, _, rfl, _, rfl, f, y, z, fm_lt ⟨k, hk⟩ f (List.mem_of_getElem? hfi), rfl, hv, wt.get hfi hz, .inr rfl, fun H2 s2 => ⟨fun ok => ?_, fun bad => ?_⟩⟩
      · refine ⟨_, _, rfl, rfl, st.trans s2, fun j g u hj e1 e2 => ?_, some (V.str (fS f)), some y, ?_⟩
        · by_cases c : j = i
          · subst c
            rw [hfi] at e1; rw [hz] at e2
            obtain rfl := Option.some.inj e1
            obtain rfl := Option.some.inj e2
            exact ok
          · exact hok j g u (by omega) e1 e2
        · have e : (k : Int) * 67108864 + sumB ((fm k).take i) (xs.take i) + bitA f z = (k : Int) * 67108864 + sumB ((fm k).take (i + 1)) (xs.take (i + 1)) := by
            rw [sum_take _ _ _ _ _ hfi hz, ← Int.add_assoc]
          exact congrArg (fun z => [some (V.ref ip), some (V.str (nmS k)), some (V.int z), some (V.str (fS f)), some y]) e
      · refine (q _ ((s0.trans st).trans s2)).2 ?_
        cases c : okS (fm k) xs with
        | false => rfl
        | true => rw [okS_at _ _ _ _ _ hfi hz c] at bad; exact nomatch bad
    · rintro σ H' ⟨ss, hok, x0, y0, rfl⟩
      rw [List.length_map] at hok ⊢
      rw [List.take_of_length_le (Nat.le_refl _), List.take_of_length_le (by omega)]
      refine ⟨_, rfl, (q _ (s0.trans ss)).1 (okS_all _ _ lx fun j f x e1 e2 => hok j f x (List.getElem?_eq_some_iff.mp e1).1 e1 e2)⟩
end

theorem DT.ts {K : PySem.W.Frag} {H : Hp} {v : V} {ds : List PyData} (h : DT K H v (.tuple ds)) : ∃ a xs, v = .ref a ∧ SqT K H a xs ∧ DTs K H xs ds := by
  cases h with
  | tup h r => exact ⟨_, _, rfl, h, r⟩

/-! ### sameness -/
def okD : Nat → PyData → Prop
  | _, .none => True
  | _, .bool _ => True
  | _, .int _ => True
  | _, .str _ => True
  | n + 1, .tuple ds => (∀ d ∈ ds, okD n d) ∧ ds.length ≤ 1000000
  | _, _ => False
def spSame (K : PySem.W.Frag) (n : Nat) : Sp := fun vs H Q _ => ∃ (x y : V) (d : PyData), vs = [x, y] ∧ DT K H x d ∧ DT K H y d ∧ okD n d ∧ ∀ H', Same H H' → Q (.bl true) H'
theorem kb (a b : String) (r : Bool) (h : kitB a b = some r := by decide +kernel) {K : PySem.W.Frag} : PySem.W.kitOne K (.type a) (.type b) = some r := kit_ty h
section
variable {P : Program} {w : World} {K : PySem.W.Frag} {mg : Str → Option Value} {base : Heap} {a : Ad}
theorem ok_same_aux (T : Txt w K mg a) (n k : Nat) (sp' : Sp) (G_law_same : FnOk P w K mg base CX0 k a.f_law_same a.d_law_same ["actual", "due"] sp') (hG : ∀ m, n = m + 1 → ∀ vs H Q E, spSame K m vs H Q E → sp' vs H Q E) :
    FnOk P w K mg base CX0 (k + 1) a.f_law_same a.d_law_same ["actual", "due"] (spSame K n) := by
  refine T.F__law_same.ok sc_law_same (fun vs H Q E h => ?_) (fun cdv A outer s H vs Q E hr h => ?_)
  · obtain ⟨_, _, _, rfl, _⟩ := h; rfl
  · obtain ⟨x, y, d, rfl, hx, hy, ho, q⟩ := h
    refine ⟨_, (pss_cons (ps_if (pt_val (pe_callB call_isi (by rfl) T.b_isinstance (by decide +kernel) (pa_cons (pv 1) (pa_cons (pe_bltn (v := .ty "tuple") (by rfl) T.b_tuple (by decide +kernel) rfl) pa_nil)))) (pss_cons (ps_if (PW.pt (pw_or (pt_not (pt_val (pe_callB call_isi (by rfl) T.b_isinstance (by decide +kernel) (pa_cons (pv 0) (pa_cons (pe_bltn (v := .ty "tuple") (by rfl) T.b_tuple (by decide +kernel) rfl) pa_nil))))) (pw_or1 (pt_cmpR op_ne (pe_callB call_len_seq (by rfl) T.b_len (by decide +kernel) (pa_cons (pv 0) pa_nil)) (pe_callB call_len_seq (by rfl) T.b_len (by decide +kernel) (pa_cons (pv 1) pa_nil)) (nomark _))))) (pss_one (ps_ret pe_bl)) pss_nil)
      (pss_one (ps_ret (pe_callB (cr_all rfl) (by rfl) T.b_all (by decide +kernel) (pa_cons (pe_lc (own := [("k", 2)]) (g := gName 2) rfl sc_law_same.nd (pi_range1 rfl T.b_range (pa_cons (pe_callB call_len_seq (by rfl) T.b_len (by decide +kernel) (pa_cons (pv 1) pa_nil)) pa_nil)) (blkOk_by (own := [("k", 2)]) (N := ["actual", "due", "k"]) (sc := defScope s_law_same) (by decide +kernel)) (fun _ _ _ _ _ => pg_name (i := 2) sc_law_same.nd rfl (Or.inl rfl)) (fun _ _ _ _ _ => pts_nil) (fun _ _ _ _ _ => (pe_call G_law_same hr rfl T.g__law_same T.k__law_same T.bd__law_same .nil pass0 (pa_cons (pe_ix (ix_tupK (K := K) rfl) (pv 0) (pv 2) (fun _ _ => rfl)) (pa_cons (pe_ix (ix_tupK (K := K) rfl) (pv 1) (pv 2) (fun _ _ => rfl)) pa_nil))))) pa_nil))))) pss_nil)
      (pss_cons (ps_if (pt_cmpR op_isN (pv 1) pe_non (nomark _)) (pss_one (ps_ret (pe_cmpR op_isN (pv 0) pe_non (nomark _)))) pss_nil)
      (pss_cons (ps_if (pt_val (pe_callB call_isi (by rfl) T.b_isinstance (by decide +kernel) (pa_cons (pv 1) (pa_cons (pe_bltn (v := .ty "bool") (by rfl) T.b_bool (by decide +kernel) rfl) pa_nil)))) (pss_one (ps_ret (pe_and (pe_callB call_isi (by rfl) T.b_isinstance (by decide +kernel) (pa_cons (pv 0) (pa_cons (pe_bltn (v := .ty "bool") (by rfl) T.b_bool (by decide +kernel) rfl) pa_nil))) (pe_one (pe_cmpR op_eq (pv 0) (pv 1) (nomark _)))))) pss_nil)
      (pss_cons (ps_if (pt_val (pe_callB call_isi (by rfl) T.b_isinstance (by decide +kernel) (pa_cons (pv 1) (pa_cons (pe_bltn (v := .ty "str") (by rfl) T.b_str (by decide +kernel) rfl) pa_nil)))) (pss_one (ps_ret (pe_and (pe_callB call_isi (by rfl) T.b_isinstance (by decide +kernel) (pa_cons (pv 0) (pa_cons (pe_bltn (v := .ty "str") (by rfl) T.b_str (by decide +kernel) rfl) pa_nil))) (pe_one (pe_cmpR op_eq (pv 0) (pv 1) (nomark _)))))) pss_nil)
      (pss_one (ps_ret (pe_and (pe_callB call_isi (by rfl) T.b_isinstance (by decide +kernel) (pa_cons (pv 0) (pa_cons (pe_bltn (v := .ty "int") (by rfl) T.b_int (by decide +kernel) rfl) pa_nil))) (pe_and (pe_not (pe_callB call_isi (by rfl) T.b_isinstance (by decide +kernel) (pa_cons (pv 0) (pa_cons (pe_bltn (v := .ty "bool") (by rfl) T.b_bool (by decide +kernel) rfl) pa_nil)))) (pe_one (pe_cmpR op_eq (pv 0) (pv 1) (nomark _))))))))))), ?_⟩
    have s0 := Same.refl H
    cases d with
    | none =>
      cases hx; cases hy
      refine ⟨_, rfl, _, _, _, _, _, rfl, .ty _, .base .non, kb "NoneType" "tuple" false, _, rfl, iteF ?_⟩
      refine ⟨_, rfl, rfl, _, rfl, iteT ?_⟩
      exact ⟨_, rfl, rfl, q _ s0⟩
    | bool i =>
      cases hx; cases hy
      refine ⟨_, rfl, _, _, _, _, _, rfl, .ty _, .base (.bl _), kb "bool" "tuple" false, _, rfl, iteF ?_⟩
      refine ⟨_, rfl, rfl, _, rfl, iteF ?_⟩
      refine ⟨_, rfl, _, _, _, _, _, rfl, .ty _, .base (.bl _), kb "bool" "bool" true, _, rfl, iteT ?_⟩
      refine ⟨_, rfl, _, _, _, _, _, rfl, .ty _, .base (.bl _), kb "bool" "bool" true, _, rfl, iteT ?_⟩
      refine ⟨_, rfl, _, rfl, rfl, ?_⟩
      rw [show decide (V.bl i = V.bl i) = true by simp]
      exact q _ s0
    | int i =>
      cases hx; cases hy
      refine ⟨_, rfl, _, _, _, _, _, rfl, .ty _, .base (.int _), kb "int" "tuple" false, _, rfl, iteF ?_⟩
      refine ⟨_, rfl, rfl, _, rfl, iteF ?_⟩
      refine ⟨_, rfl, _, _, _, _, _, rfl, .ty _, .base (.int _), kb "int" "bool" false, _, rfl, iteF ?_⟩
      refine ⟨_, rfl, _, _, _, _, _, rfl, .ty _, .base (.int _), kb "int" "str" false, _, rfl, iteF ?_⟩
      refine ⟨_, rfl, _, _, _, _, _, rfl, .ty _, .base (.int _), kb "int" "int" true, _, rfl, iteT ?_⟩
      refine ⟨_, rfl, _, _, _, _, _, rfl, .ty _, .base (.int _), kb "int" "bool" false, _, rfl, _, rfl, iteT ?_⟩
      refine ⟨_, rfl, _, rfl, rfl, ?_⟩
      rw [show decide (V.int i = V.int i) = true by simp]
      exact q _ s0
    | str z =>
      cases hx; cases hy
      refine ⟨_, rfl, _, _, _, _, _, rfl, .ty _, .base (.str _), kb "str" "tuple" false, _, rfl, iteF ?_⟩
      refine ⟨_, rfl, rfl, _, rfl, iteF ?_⟩
      refine ⟨_, rfl, _, _, _, _, _, rfl, .ty _, .base (.str _), kb "str" "bool" false, _, rfl, iteF ?_⟩
      refine ⟨_, rfl, _, _, _, _, _, rfl, .ty _, .base (.str _), kb "str" "str" true, _, rfl, iteT ?_⟩
      refine ⟨_, rfl, _, _, _, _, _, rfl, .ty _, .base (.str _), kb "str" "str" true, _, rfl, iteT ?_⟩
      refine ⟨_, rfl, _, rfl, rfl, ?_⟩
      rw [show decide (V.str z = V.str z) = true by simp]
      exact q _ s0
    | tuple ds =>
      cases n with
      | zero => exact ho.elim
      | succ m =>
        obtain ⟨ho, hz⟩ := ho
        obtain ⟨pa, xs, rfl, hxs, dx⟩ := hx.ts
        obtain ⟨pb, ys, rfl, hys, dy⟩ := hy.ts
        have lx := dx.len
        have ly := dy.len
        refine ⟨_, rfl, _, _, _, _, _, rfl, .ty _, tyx_tup hys, kb "tuple" "tuple" true, _, rfl, iteT ?_⟩
        refine ⟨_, rfl, _, _, _, _, _, rfl, .ty _, tyx_tup hxs, kb "tuple" "tuple" true, _, rfl, iteF ?_⟩
        refine ⟨_, rfl, _, _, rfl, .inr hxs, _, rfl, _, _, rfl, .inr hys, rfl, _, rfl, ?_⟩
        rw [show (!decide (V.int (xs.length : Int) = V.int (ys.length : Int))) = false by rw [lx, ly]; simp]
        refine iteF ?_
        refine ⟨_, rfl, _, _, rfl, .inr hys, _, rfl, by omega, by omega, fun D nD => ?_⟩
        refine lc_range (lo := 0) (n := (ys.length : Int).toNat) (fun i H' => Same H H' ∧ H' D = some (.lst ((List.replicate i true).map V.bl))) ⟨sN s0 nD, upd_same⟩ ?_ ?_
        · rintro i H' hi ⟨ss, hD⟩
          have hi' : i < ds.length := by omega
          obtain ⟨v1, e1, d1⟩ := dx.get (i := i) (d := ds[i]) (by simp [hi'])
          obtain ⟨v2, e2, d2⟩ := dy.get (i := i) (d := ds[i]) (by simp [hi'])
          have e0 : (0 : Int) + (i : Int) = (i : Int) := Int.zero_add _
          rw [e0]
          refine ⟨rfl, ?_⟩
          refine ⟨_, rfl, _, rfl, _, _, _, _, rfl, rfl, seqT ss hxs, atI_nat e1, _, rfl, _, rfl, _, _, _, _, rfl, rfl, seqT ss hys, atI_nat e2, ?_⟩
          refine hG m rfl _ _ _ _ ⟨v1, v2, ds[i], rfl, d1.keep (KT.same ss), d2.keep (KT.same ss), ho _ (List.getElem_mem hi'), fun H2 s2 => ?_⟩
          refine ⟨_, s2 _ _ hD, (by have := sizeLine_eq; simp; omega), sUpd (sTr ss s2) nD, ?_⟩
          rw [upd_same, List.replicate_succ', List.map_append]
          rfl
        · rintro H' ⟨ss, hD⟩
          refine ⟨D, List.replicate _ true, rfl, SqL.of hD, ?_⟩
          have e : (List.replicate (ys.length : Int).toNat true).all id = true := by simp
          rw [e]
          exact q _ ss
    | list ds => exact (by cases n <;> exact ho.elim)
    | _ => exact (by cases n <;> exact ho.elim)
theorem ok_same (T : Txt w K mg a) : ∀ n, FnOk P w K mg base CX0 (n + 1) a.f_law_same a.d_law_same ["actual", "due"] (spSame K n)
  | 0 => ok_same_aux T 0 0 spNever ⟨fun _ _ _ _ h => h.elim, fun _ _ _ _ _ _ _ _ _ _ _ _ _ h => h.elim⟩ fun _ h => nomatch h
  | n + 1 => ok_same_aux T (n + 1) (n + 1) (spSame K n) (ok_same T n) fun m h vs H Q E q => by
    obtain rfl : n = m := Nat.succ.inj h
    exact q
end

/-! ### the draws -/
structure StD (H : Hp) (st ca : Addr) (ns : List Int) : Prop where
  at' : ∃ i d n t b : Int, 0 ≤ i ∧ H st = some (.lst [.ref ca, .int i, .int d, .int n, .int t, .int b])
  ca' : H ca = some (.lst (ns.map V.int))
theorem StD.same {H H' : Hp} {st ca : Addr} {ns : List Int} (h : StD H st ca ns) (f : Same H H') : StD H' st ca ns := by
  obtain ⟨i, d, n, t, b, z, e⟩ := h.at'
  exact ⟨⟨i, d, n, t, b, z, f _ _ e⟩, f _ _ h.ca'⟩
theorem StD.new {H : Hp} {st ca p : Addr} {ns : List Int} {o : HO} (h : StD H st ca ns) (np : H p = none) : StD (upd H p o) st ca ns := h.same (sN (Same.refl H) np)
/-- all but the state stays -/
def Frs (st : Addr) (H H' : Hp) : Prop := ∀ b o, H b = some o → b ≠ st → H' b = some o
theorem Frs.refl {st : Addr} {H : Hp} : Frs st H H := fun _ _ e _ => e
theorem Frs.tr {st : Addr} {H H1 H2 : Hp} (x : Frs st H H1) (y : Frs st H1 H2) : Frs st H H2 := fun b o e n => y b o (x b o e n) n
theorem Frs.put {st : Addr} {H H1 : Hp} {o : HO} (x : Frs st H H1) : Frs st H (upd H1 st o) := fun b u e n => by rw [upd_ne n]; exact x b u e n
theorem Frs.of {st : Addr} {H H1 : Hp} (x : Same H H1) : Frs st H H1 := fun b u e _ => x b u e
theorem Frs.same {st : Addr} {H0 H H1 : Hp} (s : Same H0 H) (x : Frs st H H1) (n1 : H0 st = none) : Same H0 H1 := fun b o e => x b o (s b o e) (ne_of_none e n1)
def spMix : Sp := fun vs H Q _ => ∃ (n c : Int), vs = [.int n, .int c] ∧ ∀ v : Int, Q (.int v) H
def spState (K : PySem.W.Frag) : Sp := fun vs H Q _ => ∃ (sa : Addr) (ns : List Int) (b : Int), vs = [.ref sa, .int b] ∧ SqL K H sa (ns.map V.int) ∧ ns.length ≤ 63 ∧ ∀ (st ca : Addr) (H' : Hp) (t b : Int), H st = none → H ca = none → H' ca = some (.lst (ns.map V.int)) → H' st = some (.lst [.ref ca, .int 0, .int 0, .int 0, .int t, .int b]) → Same H H' → Q (.ref st) H'
def spDraw : Sp := fun vs H Q _ => ∃ (st ca : Addr) (ns : List Int) (m : Int), vs = [.ref st, .int m] ∧ StD H st ca ns ∧ 0 < m ∧ m < 2 ^ 62 ∧ ∀ (v : Int) (H' : Hp), 0 ≤ v → v < m → StD H' st ca ns → Frs st H H' → Q (.int v) H'
section
variable {P : Program} {w : World} {K : PySem.W.Frag} {mg : Str → Option Value} {base : Heap} {a : Ad}
theorem ok_law_mixed (T : Txt w K mg a) : FnOk P w K mg base CX0 1 a.f_law_mixed a.d_law_mixed ["number", "count"] spMix := by
  refine T.F__law_mixed.ok sc_law_mixed (fun vs H Q E h => ?_) (fun cdv A outer s H vs Q E hr h => ?_)
  · obtain ⟨_, _, rfl, _⟩ := h; rfl
  · obtain ⟨n, c, rfl, q⟩ := h
    refine ⟨_, (pss_cons (ps_set (i := 2) sc_law_mixed.nd rfl (Or.inl rfl) (pe_op op_mod (pe_callTy call_int1 (by rfl) T.b_int (by decide +kernel) (pa_cons (pe_op op_add (pe_op op_add (pe_op op_mul (pv 0) pe_int) (pe_op op_mul (pv 1) pe_int)) pe_int) pa_nil)) pe_int))
      (pss_cons (ps_set (i := 3) sc_law_mixed.nd rfl (Or.inl rfl) (pe_op op_mod (pe_callTy call_int1 (by rfl) T.b_int (by decide +kernel) (pa_cons (pe_op op_add (pe_op op_add (pe_op op_mul (pv 2) (pv 2)) (pv 0)) (pe_op op_mul (pv 1) pe_int)) pa_nil)) pe_int))
      (pss_one (ps_ret (pe_op op_add (pv 3) (pe_op op_fdivW (pv 2) pe_int)))))), ?_⟩
    have hdv : ∀ i, CDivW i 64 := fun i => wide_div (b := 62) (by decide) (by decide) (by decide) (by decide)
    refine ⟨_, rfl, _, _, rfl, rfl, .inr (by decide), _, rfl, _, _, rfl, rfl, .inr (by decide), _, _, rfl, rfl, _, _, rfl, rfl, .inl ⟨_, rfl, _, _, rfl, rfl, (by show (0 : Int) < 2147483647; decide), ?_⟩⟩
    have h0 := Int.emod_nonneg (n * 48271 + c * 69621 + 7) (b := 2147483647) (by decide)
    have h1 := Int.emod_lt_of_pos (n * 48271 + c * 69621 + 7) (b := 2147483647) (by decide)
    refine ⟨_, rfl, _, rfl, _, _, rfl, rfl, .inr ⟨by omega, by omega⟩, _, rfl, _, _, rfl, rfl, _, rfl, _, _, rfl, rfl, .inr (by decide), _, _, rfl, rfl, .inl ⟨_, rfl, _, _, rfl, rfl, (by show (0 : Int) < 2147483399; decide), ?_⟩⟩
    exact ⟨_, rfl, _, rfl, _, _, rfl, rfl, hdv _, _, _, rfl, rfl, q _⟩
theorem ok_law_state (T : Txt w K mg a) : FnOk P w K mg base CX0 1 a.f_law_state a.d_law_state ["script", "budget"] (spState K) := by
  refine T.F__law_state.ok sc_law_state (fun vs H Q E h => ?_) (fun cdv A outer s H vs Q E hr h => ?_)
  · obtain ⟨_, _, _, rfl, _⟩ := h; rfl
  · obtain ⟨sa, ns, b, rfl, hs, hl, q⟩ := h
    refine ⟨_, (pss_one (ps_ret (pe_lst (pa_cons (pe_callTy call_list_of (by rfl) T.b_list (by decide +kernel) (pa_cons (pv 0) pa_nil)) (pa_cons pe_int (pa_cons pe_int (pa_cons pe_int (pa_cons (pe_op op_add (pe_op op_mod (pe_callTy call_int1 (by rfl) T.b_int (by decide +kernel) (pa_cons (pe_callB (cr_sum rfl) (by rfl) T.b_sum (by decide +kernel) (pa_cons (pv 0) pa_nil)) pa_nil)) (pe_op op_pow pe_int pe_int)) (pe_callB call_len_seq (by rfl) T.b_len (by decide +kernel) (pa_cons (pv 0) pa_nil))) (pa_cons (pv 1) pa_nil))))))))), ?_⟩
    refine ⟨_, rfl, sa, _, rfl, .inl hs, fun ca nca => ?_⟩
    have s1 := sN (Same.refl H) nca (o := .lst (ns.map V.int))
    refine ⟨_, rfl, sa, ns, rfl, Same.seq s1 hs, .inl ⟨_, rfl, _, _, rfl, rfl, ⟨by decide, by decide, by decide⟩, _, _, rfl, rfl, (by show (0 : Int) < 10 ^ 15; decide), _, rfl, _, _, rfl, .inl (Same.seq s1 hs), _, _, rfl, rfl, _, rfl, (by show 6 ≤ sizeLine; decide), fun st nst => ?_⟩⟩
    have ncs : ca ≠ st := ne_of_none upd_same nst
    have ns0 : H st = none := by rw [upd_ne ncs.symm] at nst; exact nst
    exact q st ca _ _ _ ns0 nca (by rw [upd_ne ncs]; exact upd_same) upd_same (sN s1 nst)
theorem ok_law_draw (T : Txt w K mg a) : FnOk P w K mg base CX0 3 a.f_law_draw a.d_law_draw ["state", "many"] spDraw := by
  have G_law_mixed : FnOk P w K mg base CX0 1 _ _ _ _ := ok_law_mixed T
  refine T.F__law_draw.ok sc_law_draw (fun vs H Q E h => ?_) (fun cdv A outer s H vs Q E hr h => ?_)
  · obtain ⟨_, _, _, _, rfl, _⟩ := h; rfl
  · obtain ⟨st, ca, ns, m, rfl, S, hm, hm2, q⟩ := h
    have hdv : ∀ i, CDivW i m := fun i => wide_div (b := 62) hm (by omega) (by decide) (by decide)
    obtain ⟨i, d, n, t, b, i0, h1⟩ := S.at'
    have h2 := S.ca'
    have nsc : st ≠ ca := ne_of h1 h2 fun e => by
      injection e with e
      cases ns with
      | nil => exact nomatch e
      | cons x r => injection e with e _; exact nomatch e
    refine ⟨_, (pss_cons (ps_set (i := 2) sc_law_draw.nd rfl (Or.inl rfl) (pe_ix ix_list (pv 0) pe_int (fun _ _ => rfl)))
      (pss_cons (ps_asg (pe_op op_add (pe_ix ix_list (pv 0) pe_int (fun _ _ => rfl)) pe_int) (pg_sub (pv 0) pe_int set_list))
      (C8.pss_cut (ps_if (PW.pt (pw_and (pt_cmpR op_eq (pe_ix ix_list (pv 0) pe_int (fun _ _ => rfl)) pe_int (nomark _)) (pw_and1 (pt_cmpR op_lt (pe_ix ix_list (pv 0) pe_int (fun _ _ => rfl)) (pe_callB call_len_seq (by rfl) T.b_len (by decide +kernel) (pa_cons (pv 2) pa_nil)) (nomark _))))) (pss_cons (ps_asg (pe_op op_add (pe_ix ix_list (pv 0) pe_int (fun _ _ => rfl)) pe_int) (pg_sub (pv 0) pe_int set_list))
      (pss_cons (ps_set (i := 3) sc_law_draw.nd rfl (Or.inl rfl) (pe_callB call_abs (by rfl) T.b_abs (by decide +kernel) (pa_cons (pe_ix ix_list (pv 2) (pe_op op_sub (pe_ix ix_list (pv 0) pe_int (fun _ _ => rfl)) pe_int) (fun _ _ => rfl)) pa_nil)))
      (pss_cons (ps_if (pt_cmpR op_lt (pv 3) (pe_op op_pow pe_int pe_int) (nomark _)) (pss_one (ps_ret (pe_op op_mod (pe_callTy call_int1 (by rfl) T.b_int (by decide +kernel) (pa_cons (pe_call G_law_mixed (hr.mono (by decide)) rfl T.g__law_mixed T.k__law_mixed T.bd__law_mixed .nil pass0 (pa_cons (pv 3) (pa_cons (pe_ix ix_list (pv 0) pe_int (fun _ _ => rfl)) pa_nil))) pa_nil)) (pv 1)))) pss_nil)
      (pss_one (ps_asg (pv 3) (pg_sub (pv 0) pe_int set_list)))))) pss_nil)
      (pss_cons (ps_if (pt_cmpR op_eq (pe_ix ix_list (pv 0) pe_int (fun _ _ => rfl)) pe_int (nomark _)) (pss_one (ps_ret (pe_op op_mod (pe_callTy call_int1 (by rfl) T.b_int (by decide +kernel) (pa_cons (pe_call G_law_mixed (hr.mono (by decide)) rfl T.g__law_mixed T.k__law_mixed T.bd__law_mixed .nil pass0 (pa_cons (pe_ix ix_list (pv 0) pe_int (fun _ _ => rfl)) (pa_cons (pe_ix ix_list (pv 0) pe_int (fun _ _ => rfl)) pa_nil))) pa_nil)) (pv 1)))) pss_nil)
      (pss_cons (ps_set (i := 4) sc_law_draw.nd rfl (Or.inl rfl) (pe_op op_mod (pe_callTy call_int1 (by rfl) T.b_int (by decide +kernel) (pa_cons (pe_ix ix_list (pv 0) pe_int (fun _ _ => rfl)) pa_nil)) (pv 1)))
      (pss_cons (ps_asg (pe_op op_fdivW (pe_callTy call_int1 (by rfl) T.b_int (by decide +kernel) (pa_cons (pe_ix ix_list (pv 0) pe_int (fun _ _ => rfl)) pa_nil)) (pv 1)) (pg_sub (pv 0) pe_int set_list))
      (pss_one (ps_ret (pv 4))))))))), ?_⟩
    refine ⟨_, rfl, _, _, _, _, rfl, rfl, SqL.of h1, rfl, ?_⟩
    refine ⟨_, rfl, _, _, _, _, rfl, rfl, SqL.of h1, rfl, _, _, rfl, rfl, _, rfl, _, _, _, _, rfl, rfl, h1, rfl, ?_⟩
    have k2 : ∀ {H2 : Hp} {o : HO}, H2 ca = some (.lst (ns.map V.int)) → upd H2 st o ca = some (.lst (ns.map V.int)) := fun e => by rw [upd_ne nsc.symm]; exact e
    refine ⟨fun σ H2 => ∃ (i d n t b : Int) (o : Option V), 0 ≤ i ∧ σ = [some (.ref st), some (.int m), some (.ref ca), o, none] ∧ H2 st = some (.lst [.ref ca, .int i, .int d, .int n, .int t, .int b]) ∧ H2 ca = some (.lst (ns.map V.int)) ∧ Frs st H H2, ?_, ?_⟩
    · have e1 : upd H st (.lst [.ref ca, .int i, .int d, .int (n + 1), .int t, .int b]) st = some (.lst [.ref ca, .int i, .int d, .int (n + 1), .int t, .int b]) := upd_same
      have e2 := k2 (o := .lst [.ref ca, .int i, .int d, .int (n + 1), .int t, .int b]) h2
      refine ⟨_, rfl, _, _, _, _, rfl, rfl, SqL.of e1, rfl, rfl, _, rfl, ite3 (fun c1 => ?_) (fun c1 => ?_)⟩
      · refine ⟨_, rfl, _, _, _, _, rfl, rfl, SqL.of e1, rfl, _, rfl, _, _, rfl, .inl (SqL.of e2), _, _, rfl, rfl, _, rfl, ite3 (fun c2 => ?_) (fun c2 => ?_)⟩
        · have hlt : i.toNat < ns.length := by
            have := of_decide_eq_true c2
            simp at this
            omega
          have hat : atI (ns.map V.int) (i + 1 - 1) = some (.int ns[i.toNat]) := by
            have hh := atI_nat (j := i.toNat) (xs := ns.map V.int) (v := V.int ns[i.toNat]) (by simp [hlt])
            rwa [show ((i.toNat : Nat) : Int) = i + 1 - 1 by omega] at hh
          refine ⟨_, rfl, _, _, _, _, rfl, rfl, SqL.of e1, rfl, _, _, rfl, rfl, _, rfl, _, _, _, _, rfl, rfl, e1, rfl, ?_⟩
          have e3 := k2 (o := .lst [.ref ca, .int (i + 1), .int d, .int (n + 1), .int t, .int b]) e2
          refine ⟨_, rfl, _, rfl, _, _, _, _, rfl, rfl, SqL.of upd_same, rfl, _, _, rfl, rfl, _, _, _, _, rfl, rfl, SqL.of e3, hat, _, rfl, ?_⟩
          refine ⟨_, rfl, _, _, rfl, rfl, ⟨by decide, by decide, by decide⟩, _, _, rfl, rfl, _, rfl, ite3 (fun c3 => ?_) (fun c3 => ?_)⟩
          · refine ⟨_, rfl, _, rfl, _, _, _, _, rfl, rfl, SqL.of upd_same, rfl, _, _, rfl, fun v => .inl ⟨_, rfl, _, rfl, _, _, rfl, rfl, hm, ?_⟩⟩
            exact q _ _ (Int.emod_nonneg _ (by omega)) (Int.emod_lt_of_pos _ hm) ⟨⟨_, _, _, _, _, by omega, upd_same⟩, e3⟩ Frs.refl.put.put
          · refine ⟨_, rfl, _, rfl, _, _, _, _, rfl, rfl, upd_same, rfl, ?_⟩
            exact ⟨i + 1, _, _, _, _, _, by omega, rfl, upd_same, k2 e3, Frs.refl.put.put.put⟩
        · exact ⟨_, _, _, _, _, _, i0, rfl, upd_same, e2, Frs.refl.put⟩
      · exact iteF ⟨_, _, _, _, _, _, i0, rfl, upd_same, e2, Frs.refl.put⟩
    · clear h1 h2 i0
      rintro σ H2 ⟨i, d, n, t, b, o, i0, rfl, h1, h2, f⟩
      refine ⟨_, rfl, _, _, _, _, rfl, rfl, SqL.of h1, rfl, rfl, _, rfl, ite3 (fun c1 => ?_) (fun c1 => ?_)⟩
      · refine ⟨_, rfl, _, _, _, _, rfl, rfl, SqL.of h1, rfl, _, rfl, _, _, _, _, rfl, rfl, SqL.of h1, rfl, _, _, rfl, fun v => .inl ⟨_, rfl, _, rfl, _, _, rfl, rfl, hm, ?_⟩⟩
        exact q _ _ (Int.emod_nonneg _ (by omega)) (Int.emod_lt_of_pos _ hm) ⟨⟨_, _, _, _, _, i0, h1⟩, h2⟩ f
      · refine ⟨_, rfl, _, _, _, _, rfl, rfl, SqL.of h1, rfl, .inl ⟨_, rfl, _, rfl, _, _, rfl, rfl, hm, ?_⟩⟩
        refine ⟨_, rfl, _, _, _, _, rfl, rfl, SqL.of h1, rfl, .inl ⟨_, rfl, _, rfl, _, _, rfl, rfl, hdv _, _, rfl, _, _, _, _, rfl, rfl, h1, rfl, ?_⟩⟩
        exact ⟨_, rfl, q _ _ (Int.emod_nonneg _ (by omega)) (Int.emod_lt_of_pos _ hm) ⟨⟨_, _, _, _, _, i0, upd_same⟩, k2 h2⟩ f.put⟩
end
section
variable {K : PySem.W.Frag} {H H' : Hp}
theorem StD.ne {st ca p : Addr} {ns : List Int} (S : StD H st ca ns) (n : H p = none) : p ≠ st := fun e => by
  obtain ⟨_, _, _, _, _, _, e1⟩ := S.at'
  rw [e, e1] at n; cases n
theorem StD.neC {st ca p : Addr} {ns : List Int} (S : StD H st ca ns) (n : H p = none) : p ≠ ca := fun e => by
  rw [e, S.ca'] at n; cases n
theorem StD.upd {st ca p : Addr} {ns : List Int} {o : HO} (S : StD H st ca ns) (n1 : p ≠ st) (n2 : p ≠ ca) : StD (L2.upd H p o) st ca ns := by
  obtain ⟨i, d, n, t, b, z, e⟩ := S.at'
  exact ⟨⟨i, d, n, t, b, z, by rw [upd_ne n1.symm]; exact e⟩, by rw [upd_ne n2.symm]; exact S.ca'⟩
theorem StD.kt {st ca : Addr} {ns : List Int} (S : StD H st ca ns) (f : Frs st H H') : KT K H H' := fun b ys h => by
  obtain ⟨_, _, _, _, _, _, e⟩ := S.at'
  rcases h with (h | ⟨u, h⟩) | h
  · exact .inl (.inl (f _ _ h (ne_of h e fun z => nomatch z)))
  · exact .inl (.inr ⟨u, f _ _ h (ne_of h e fun z => nomatch z)⟩)
  · exact .inr h
theorem Frs.new {st p : Addr} {H0 : Hp} {o : HO} (f : Frs st H0 H) (n : H p = none) : Frs st H0 (L2.upd H p o) := fun b u e m => by
  rw [upd_ne (ne_of_none (f b u e m) n)]; exact f b u e m
/-- a list that is new since H0 is written -/
theorem Frs.upN {st p : Addr} {H0 : Hp} {o : HO} (f : Frs st H0 H) (n : H0 p = none) : Frs st H0 (L2.upd H p o) := fun b u e m => by
  rw [upd_ne (ne_of_none e n)]; exact f b u e m
end

def Rg (K : PySem.W.Frag) (H : Hp) (p : Addr) (fs : List Nat) : Prop := ∃ ts : List Addr, H p = some (.lst (ts.map V.ref)) ∧ ts.length = fs.length ∧ ∀ (i f : Nat), fs[i]? = some f → ∃ q, ts[i]? = some q ∧ SqT K H q [.int (fLo f), .int (fHi f)]
def spNames : Sp := fun vs H Q _ => vs = [] ∧ ∀ p, H p = none → Q (.ref p) (upd H p (.lst (nms.map V.str)))
def spRanges (K : PySem.W.Frag) : Sp := fun vs H Q _ => ∃ (k : Nat) (b : Bool), k < 29 ∧ vs = [.str (nmS k), .str (fS (kdS b))] ∧ ∀ p H', Same H H' → Rg K H' p (rgs k b) → H p = none → Q (.ref p) H'
def spInstr (K : PySem.W.Frag) : Sp := fun vs H Q _ => ∃ (k : Nat) (b : Bool) (np : Addr) (ns : List Int), k < 29 ∧ vs = [.str (nmS k), .str (fS (kdS b)), .ref np] ∧ H np = some (.lst (ns.map V.int)) ∧ (fm k).length = ns.length ∧ ∀ ip ws H', Same H H' → SqT K H' ip (.str (nmS k) :: ws) → ArVs K H' ws (arL b (fm k) ns) → Q (.ref ip) H'
def spEncd (K : PySem.W.Frag) : Sp := fun vs H Q _ => ∃ (k : Nat) (b : Bool) (np : Addr) (ns : List Int), k < 29 ∧ vs = [.str (nmS k), .str (fS (kdS b)), .ref np] ∧ H np = some (.lst (ns.map V.int)) ∧ (fm k).length = ns.length ∧ okN b (fm k) ns = true ∧ ∀ H', Same H H' → Q (.int (encV k (arL b (fm k) ns))) H'
def spBetween : Sp := fun vs H Q _ => ∃ (st ca : Addr) (ns : List Int) (lo hi : Int), vs = [.ref st, .int lo, .int hi] ∧ StD H st ca ns ∧ lo ≤ hi ∧ -(2 ^ 60) ≤ lo ∧ hi ≤ 2 ^ 60 ∧ ∀ (v : Int) (H' : Hp), lo ≤ v → v ≤ hi → StD H' st ca ns → Frs st H H' → Q (.int v) H'
theorem c2 (v : Int) (h0 : 0 ≤ v) (h1 : v < 2) (x y : Int) : ∃ z, atI [V.int x, V.int y] v = some (.int z) ∧ (z = x ∨ z = y) := by
  obtain rfl | rfl : v = 0 ∨ v = 1 := by omega
  · exact ⟨x, at0, .inl rfl⟩
  · exact ⟨y, atI_nat (j := 1) rfl, .inr rfl⟩
theorem frs_p {st p : Addr} {H H' : Hp} {o : HO} (f : Frs st H H') (e : H p = some o) (n : p ≠ st) : H' p = some o := f p o e n
theorem rg_mk {K : PySem.W.Frag} {H : Hp} {p : Addr} : ∀ {fs : List Nat} {ts : List Addr}, H p = some (.lst (ts.map V.ref)) → ts.length = fs.length → (∀ (i f : Nat), fs[i]? = some f → ∃ q, ts[i]? = some q ∧ SqT K H q [.int (fLo f), .int (fHi f)]) → Rg K H p fs := fun h l k => ⟨_, h, l, k⟩
theorem rg0 {K : PySem.W.Frag} {H : Hp} {p : Addr} (h : H p = some (.lst [])) : Rg K H p [] := ⟨[], h, rfl, fun i f e => by simp at e⟩
theorem rg1 {K : PySem.W.Frag} {H : Hp} {p q : Addr} {f : Nat} (h : H p = some (.lst [.ref q])) (h1 : SqT K H q [.int (fLo f), .int (fHi f)]) : Rg K H p [f] := ⟨[q], h, rfl, fun i g e => by
  match i, e with
  | 0, e => obtain rfl := Option.some.inj e; exact ⟨q, rfl, h1⟩
  | i + 1, e => simp at e⟩
theorem rg2 {K : PySem.W.Frag} {H : Hp} {p q r : Addr} {f g : Nat} (h : H p = some (.lst [.ref q, .ref r])) (h1 : SqT K H q [.int (fLo f), .int (fHi f)]) (h2 : SqT K H r [.int (fLo g), .int (fHi g)]) : Rg K H p [f, g] := ⟨[q, r], h, rfl, fun i z e => by
  match i, e with
  | 0, e => obtain rfl := Option.some.inj e; exact ⟨q, rfl, h1⟩
  | 1, e => obtain rfl := Option.some.inj e; exact ⟨r, rfl, h2⟩
  | i + 2, e => simp at e⟩
theorem rg3 {K : PySem.W.Frag} {H : Hp} {p q r u : Addr} {f g h' : Nat} (h : H p = some (.lst [.ref q, .ref r, .ref u])) (h1 : SqT K H q [.int (fLo f), .int (fHi f)]) (h2 : SqT K H r [.int (fLo g), .int (fHi g)]) (h3 : SqT K H u [.int (fLo h'), .int (fHi h')]) : Rg K H p [f, g, h'] := ⟨[q, r, u], h, rfl, fun i z e => by
  match i, e with
  | 0, e => obtain rfl := Option.some.inj e; exact ⟨q, rfl, h1⟩
  | 1, e => obtain rfl := Option.some.inj e; exact ⟨r, rfl, h2⟩
  | 2, e => obtain rfl := Option.some.inj e; exact ⟨u, rfl, h3⟩
  | i + 3, e => simp at e⟩
section
variable {P : Program} {w : World} {K : PySem.W.Frag} {mg : Str → Option Value} {base : Heap} {a : Ad}
theorem ok_law_names (T : Txt w K mg a) : FnOk P w K mg base CX0 1 a.f_law_names a.d_law_names [] spNames := by
  refine T.F__law_names.ok sc_law_names (fun vs H Q E h => ?_) (fun cdv A outer s H vs Q E hr h => ?_)
  · obtain ⟨rfl, _⟩ := h; rfl
  · obtain ⟨rfl, q⟩ := h
    refine ⟨_, (pss_cons (ps_set (i := 0) sc_law_names.nd rfl (Or.inl rfl) pe_str)
      (pss_one (ps_ret (pe_split (pe_op op_add_str (pv 0) pe_str) pe_str)))), ?_⟩
    refine ⟨_, rfl, _, _, rfl, rfl, by decide +kernel, ⟨_, rfl⟩, _, _, rfl, rfl, by decide +kernel, by decide +kernel, fun p np => ?_⟩
    rw [names_split]
    exact q p np
theorem ok_law_between (T : Txt w K mg a) : FnOk P w K mg base CX0 4 a.f_law_between a.d_law_between ["state", "low", "high"] spBetween := by
  have G_law_draw : FnOk P w K mg base CX0 3 _ _ _ _ := ok_law_draw T
  refine T.F__law_between.ok sc_law_between (fun vs H Q E h => ?_) (fun cdv A outer s H vs Q E hr h => ?_)
  · obtain ⟨_, _, _, _, _, rfl, _⟩ := h; rfl
  · obtain ⟨st, ca, ns, lo, hi, rfl, S, hlh, hlo, hhi, q⟩ := h
    refine ⟨_, (pss_cons (ps_set (i := 3) sc_law_between.nd rfl (Or.inl rfl) (pe_call G_law_draw (hr.mono (by decide)) rfl T.g__law_draw T.k__law_draw T.bd__law_draw .nil pass0 (pa_cons (pv 0) (pa_cons pe_int pa_nil))))
      (pss_cons (ps_if (pt_cmpR op_eq (pv 3) pe_int (nomark _)) (pss_one (ps_ret (pv 1))) pss_nil)
      (pss_cons (ps_if (pt_cmpR op_eq (pv 3) pe_int (nomark _)) (pss_one (ps_ret (pv 2))) pss_nil)
      (pss_cons (ps_if (pt_cmpR op_eq (pv 3) pe_int (nomark _)) (pss_one (ps_ret (pe_callB (cr_max rfl) (by rfl) T.b_max (by decide +kernel) (pa_cons (pe_lst (pa_cons (pv 1) (pa_cons (pe_callB (cr_min rfl) (by rfl) T.b_min (by decide +kernel) (pa_cons (pe_lst (pa_cons (pv 2) (pa_cons (pe_op op_sub (pe_call G_law_draw (hr.mono (by decide)) rfl T.g__law_draw T.k__law_draw T.bd__law_draw .nil pass0 (pa_cons (pv 0) (pa_cons pe_int pa_nil))) pe_int) pa_nil))) pa_nil)) pa_nil))) pa_nil)))) pss_nil)
      (pss_one (ps_ret (pe_op op_add (pv 1) (pe_call G_law_draw (hr.mono (by decide)) rfl T.g__law_draw T.k__law_draw T.bd__law_draw .nil pass0 (pa_cons (pv 0) (pa_cons (pe_op op_add (pe_op op_sub (pv 2) (pv 1)) pe_int) pa_nil)))))))))), ?_⟩
    refine ⟨_, rfl, st, ca, ns, 5, rfl, S, by decide, by decide, fun c H1 c0 c1 S1 F1 => ?_⟩
    refine ⟨_, rfl, rfl, _, rfl, ite3 (fun e => ?_) (fun e => ?_)⟩
    · exact ⟨_, rfl, q _ _ (Int.le_refl _) hlh S1 F1⟩
    refine ⟨_, rfl, rfl, _, rfl, ite3 (fun e => ?_) (fun e => ?_)⟩
    · exact ⟨_, rfl, q _ _ hlh (Int.le_refl _) S1 F1⟩
    refine ⟨_, rfl, rfl, _, rfl, ite3 (fun e => ?_) (fun e => ?_)⟩
    · refine ⟨_, rfl, _, rfl, _, rfl, st, ca, ns, 9, rfl, S1, by decide, by decide, fun v H3 v0 v1 S3 F3 => ⟨_, _, rfl, rfl, (by show 2 ≤ sizeLine; decide), fun p np => ?_⟩⟩
      refine ⟨p, [hi, v - 4], rfl, SqL.of upd_same, Nat.zero_lt_succ _, fun m hm1 hm2 => ⟨(by show 2 ≤ sizeLine; decide), fun p2 np2 => ⟨p2, [lo, m], rfl, SqL.of upd_same, Nat.zero_lt_succ _, fun k hk1 hk2 => ?_⟩⟩⟩
      have h1 := hm2 hi (by simp)
      have h2 := hk2 lo (by simp)
      have h3 : k = lo ∨ k = m := by simpa using hk1
      exact q _ _ h2 (by omega) ((S3.new np).new np2) (((F1.tr F3).new np).new np2)
    · refine ⟨_, rfl, _, rfl, _, rfl, _, rfl, _, _, rfl, rfl, _, _, rfl, rfl, st, ca, ns, hi - lo + 1, rfl, S1, by omega, by omega, fun v H3 v0 v1 S3 F3 => ⟨_, _, rfl, rfl, ?_⟩⟩
      exact q _ _ (by omega) (by omega) S3 (F1.tr F3)
theorem ok_law_ranges (T : Txt w K mg a) : FnOk P w K mg base CX0 1 a.f_law_ranges a.d_law_ranges ["name", "kind"] (spRanges K) := by
  refine T.F__law_ranges.ok sc_law_ranges (fun vs H Q E h => ?_) (fun cdv A outer s H vs Q E hr h => ?_)
  · obtain ⟨_, _, _, rfl, _⟩ := h; rfl
  · obtain ⟨k, b, hk, rfl, q⟩ := h
    refine ⟨_, (pss_cons (ps_set (i := 2) sc_law_ranges.nd rfl (Or.inl rfl) (pe_tup (pa_cons pe_int (pa_cons pe_int pa_nil))))
      (pss_cons (ps_set (i := 3) sc_law_ranges.nd rfl (Or.inl rfl) (pe_ix ix_list (pe_lst (pa_cons (pe_tup (pa_cons pe_int (pa_cons pe_int pa_nil))) (pa_cons (pe_tup (pa_cons (pe_un un_neg pe_int) (pa_cons pe_int pa_nil))) pa_nil))) (pe_callTy call_int1 (by rfl) T.b_int (by decide +kernel) (pa_cons (pe_cmpR op_eq (pv 1) pe_str (nomark _)) pa_nil)) (fun _ _ => rfl)))
      (pss_cons (ps_if (pt_cmpR op_inS (pv 0) (pe_lst (pa_cons pe_str (pa_cons pe_str (pa_cons pe_str (pa_cons pe_str (pa_cons pe_str pa_nil)))))) rfl) (pss_one (ps_ret (pe_lst pa_nil))) pss_nil)
      (pss_cons (ps_if (PW.pt (pw_or (pt_cmpR op_eq (pv 0) pe_str (nomark _)) (pw_or1 (pt_cmpR op_eq (pv 0) pe_str (nomark _))))) (pss_one (ps_ret (pe_lst (pa_cons (pv 2) pa_nil)))) pss_nil)
      (pss_cons (ps_if (PW.pt (pw_or (pt_cmpR op_eq (pv 0) pe_str (nomark _)) (pw_or1 (pt_cmpR op_eq (pv 0) pe_str (nomark _))))) (pss_one (ps_ret (pe_lst (pa_cons (pv 3) pa_nil)))) pss_nil)
      (pss_cons (ps_if (pt_cmpR op_inS (pv 0) (pe_lst (pa_cons pe_str (pa_cons pe_str (pa_cons pe_str pa_nil)))) rfl) (pss_one (ps_ret (pe_lst (pa_cons (pv 2) (pa_cons (pv 3) pa_nil))))) pss_nil)
      (pss_cons (ps_if (pt_cmpR op_eq (pv 0) pe_str (nomark _)) (pss_one (ps_ret (pe_lst (pa_cons (pe_tup (pa_cons (pe_un un_neg pe_int) (pa_cons pe_int pa_nil))) pa_nil)))) pss_nil)
      (pss_cons (ps_if (PW.pt (pw_or (pt_cmpR op_eq (pv 0) pe_str (nomark _)) (pw_or1 (pt_cmpR op_eq (pv 0) pe_str (nomark _))))) (pss_one (ps_ret (pe_lst (pa_cons (pe_tup (pa_cons pe_int (pa_cons pe_int pa_nil))) pa_nil)))) pss_nil)
      (pss_cons (ps_if (PW.pt (pw_or (pt_cmpR op_eq (pv 0) pe_str (nomark _)) (pw_or1 (pt_cmpR op_eq (pv 0) pe_str (nomark _))))) (pss_one (ps_ret (pe_lst (pa_cons (pv 2) (pa_cons (pe_tup (pa_cons (pe_un un_neg pe_int) (pa_cons pe_int pa_nil))) pa_nil))))) pss_nil)
      (pss_cons (ps_if (pt_cmpR op_eq (pv 0) pe_str (nomark _)) (pss_one (ps_ret (pe_lst (pa_cons (pv 2) (pa_cons (pv 2) (pa_cons (pe_tup (pa_cons pe_int (pa_cons pe_int pa_nil))) pa_nil)))))) pss_nil)
      (pss_one (ps_ret (pe_lst (pa_cons (pv 2) (pa_cons (pv 2) (pa_cons (pv 3) pa_nil)))))))))))))))), ?_⟩
    -- r
    refine ⟨(by show 2 ≤ sizeLine; decide), fun r nr => ?_⟩
    have s1 := sN (Same.refl H) nr (o := .tup [V.int 0, V.int 31])
    have hr1 : upd H r (.tup [V.int 0, V.int 31]) r = some (.tup [V.int 0, V.int 31]) := upd_same
    generalize upd H r (.tup [V.int 0, V.int 31]) = H1 at s1 hr1 ⊢
    -- s
    refine ⟨(by show 2 ≤ sizeLine; decide), fun u nu => ⟨_, rfl, (by show 2 ≤ sizeLine; decide), fun u2 nu2 => ⟨(by show 2 ≤ sizeLine; decide), fun l nl => ?_⟩⟩⟩
    have s2 := sN (sN (sN s1 nu (o := .tup [V.int 0, V.int 31])) nu2 (o := .tup [V.int (-16384), V.int 16383])) nl (o := .lst [V.ref u, V.ref u2])
    have hu := sN (sN (Same.refl _) nu2 (o := .tup [V.int (-16384), V.int 16383])) nl (o := .lst [V.ref u, V.ref u2]) u (.tup [V.int 0, V.int 31]) upd_same
    have hu2 := sN (Same.refl _) nl (o := .lst [V.ref u, V.ref u2]) u2 (.tup [V.int (-16384), V.int 16383]) upd_same
    have hl : upd (upd (upd H1 u (.tup [V.int 0, V.int 31])) u2 (.tup [V.int (-16384), V.int 16383])) l (.lst [V.ref u, V.ref u2]) l = some (.lst [V.ref u, V.ref u2]) := upd_same
    have hr2 := sN (sN (sN (Same.refl H1) nu (o := .tup [V.int 0, V.int 31])) nu2 (o := .tup [V.int (-16384), V.int 16383])) nl (o := .lst [V.ref u, V.ref u2]) _ _ hr1
    generalize upd (upd (upd H1 u (.tup [V.int 0, V.int 31])) u2 (.tup [V.int (-16384), V.int 16383])) l (.lst [V.ref u, V.ref u2]) = H2 at s2 hu hu2 hl hr2 ⊢
    clear s1 hr1 nu nu2 nl
    obtain ⟨sp, hsp, hat⟩ : ∃ sp : Addr, H2 sp = some (.tup [.int (fLo (kdS b)), .int (fHi (kdS b))]) ∧ atI [V.ref u, V.ref u2] (if b = true then 1 else 0) = some (.ref sp) := by
      cases b
      · exact ⟨u, hu, at0⟩
      · exact ⟨u2, hu2, atI_nat (j := 1) rfl⟩
    refine ⟨_, rfl, rfl, .inr ⟨_, rfl, ?_⟩⟩
    rw [kd_int b]
    refine ⟨_, _, _, _, rfl, rfl, SqL.of hl, hat, ?_⟩
    clear hu hu2 hl hat
    have fr : ∀ {X : Hp}, Same H2 X → SqT K X r [.int (fLo 0), .int (fHi 0)] := fun s => SqT.of (s _ _ hr2)
    have fs : ∀ {X : Hp}, Same H2 X → SqT K X sp [.int (fLo (kdS b)), .int (fHi (kdS b))] := fun s => SqT.of (s _ _ hsp)
    have fr1 : ∀ {X : Hp}, Same H2 X → SqT K X r [.int (fLo 1), .int (fHi 1)] := fun s => SqT.of (s _ _ hr2)
    -- the names
    refine ⟨_, rfl, (by show 5 ≤ sizeLine; decide), fun p np => ⟨_, _, rfl, .inl (SqL.of upd_same), rfl, rfl, _, rfl, ?_⟩⟩
    rw [in_none ⟨k, hk⟩]
    have s23 := sN (Same.refl H2) np (o := .lst [V.str "halt", V.str "restore", V.str "back", V.str "tick", V.str "retry"])
    generalize upd H2 p (.lst [V.str "halt", V.str "restore", V.str "back", V.str "tick", V.str "retry"]) = H3 at s23 ⊢
    refine ite3 (fun e => ?_) (fun e0 => ?_)
    · refine ⟨(by show 0 ≤ sizeLine; decide), fun p2 n2 => q p2 _ (sN (s2.trans s23) n2) ?_ ((s2.trans s23).free n2)⟩
      have e' : rgs k b = [] := by unfold rgs; rw [fc_none ⟨k, hk⟩ (of_decide_eq_true e)]; rfl
      rw [e']
      exact rg0 upd_same
    have g0 := of_decide_eq_false e0
    have fr : ∀ {X : Hp}, Same H3 X → SqT K X r [.int (fLo 0), .int (fHi 0)] := fun s => SqT.of (s _ _ (s23 _ _ hr2))
    have fr1 : ∀ {X : Hp}, Same H3 X → SqT K X r [.int (fLo 1), .int (fHi 1)] := fun s => SqT.of (s _ _ (s23 _ _ hr2))
    have fs : ∀ {X : Hp}, Same H3 X → SqT K X sp [.int (fLo (kdS b)), .int (fHi (kdS b))] := fun s => SqT.of (s _ _ (s23 _ _ hsp))
    have s03 := s2.trans s23
    clear s2 s23 hr2 hsp np
    -- get, bar
    have r1 : ∀ (D : Ends), D.rt = Q → rgs k b = [0] → ∀ p, H3 p = none → D.rt (.ref p) (upd H3 p (.lst [.ref r])) := fun D eD e p np => by
      rw [eD]
      refine q p _ (sN s03 np) ?_ (s03.free np)
      rw [e]
      exact rg1 upd_same (fr (sN (Same.refl _) np))
    refine ⟨_, rfl, rfl, _, rfl, ?_⟩
    rw [eq_get ⟨k, hk⟩]
    refine ite3 (fun e => ?_) (fun e1 => ?_)
    · obtain rfl : k = 23 := of_decide_eq_true e
      exact ⟨_, rfl, (by show 1 ≤ sizeLine; decide), fun p np => r1 { nx := fun _ _ => True, rt := Q } rfl rfl p np⟩
    refine ⟨_, rfl, rfl, _, rfl, ?_⟩
    rw [eq_bar ⟨k, hk⟩]
    refine ite3 (fun e => ?_) (fun e2 => ?_)
    · obtain rfl : k = 26 := of_decide_eq_true e
      exact ⟨_, rfl, (by show 1 ≤ sizeLine; decide), fun p np => r1 { nx := fun _ _ => True, rt := Q } rfl rfl p np⟩
    clear r1
    -- put, setbar
    have r1 : ∀ (D : Ends), D.rt = Q → rgs k b = [kdS b] → ∀ p, H3 p = none → D.rt (.ref p) (upd H3 p (.lst [.ref sp])) := fun D eD e p np => by
      rw [eD]
      refine q p _ (sN s03 np) ?_ (s03.free np)
      rw [e]
      exact rg1 upd_same (fs (sN (Same.refl _) np))
    refine ⟨_, rfl, rfl, _, rfl, ?_⟩
    rw [eq_put ⟨k, hk⟩]
    refine ite3 (fun e => ?_) (fun e3 => ?_)
    · obtain rfl : k = 22 := of_decide_eq_true e
      exact ⟨_, rfl, (by show 1 ≤ sizeLine; decide), fun p np => r1 { nx := fun _ _ => True, rt := Q } rfl rfl p np⟩
    refine ⟨_, rfl, rfl, _, rfl, ?_⟩
    rw [eq_setbar ⟨k, hk⟩]
    refine ite3 (fun e => ?_) (fun e4 => ?_)
    · obtain rfl : k = 27 := of_decide_eq_true e
      exact ⟨_, rfl, (by show 1 ≤ sizeLine; decide), fun p np => r1 { nx := fun _ _ => True, rt := Q } rfl rfl p np⟩
    clear r1
    -- again, below, above
    refine ⟨_, rfl, (by show 3 ≤ sizeLine; decide), fun pn npn => ⟨_, _, rfl, .inl (SqL.of upd_same), rfl, rfl, _, rfl, ?_⟩⟩
    rw [in_two ⟨k, hk⟩]
    have s34 := sN (Same.refl H3) npn (o := .lst [V.str "again", V.str "below", V.str "above"])
    generalize upd H3 pn (.lst [V.str "again", V.str "below", V.str "above"]) = H4 at s34 ⊢
    have s04 := s03.trans s34
    refine ite3 (fun e => ?_) (fun e5 => ?_)
    · refine ⟨_, rfl, _, rfl, (by show 2 ≤ sizeLine; decide), fun p np => ?_⟩
      refine q p _ (sN s04 np) ?_ (s04.free np)
      have e' : rgs k b = [1, kdS b] := by unfold rgs; rw [fc_two ⟨k, hk⟩ (of_decide_eq_true e)]; rfl
      rw [e']
      exact rg2 upd_same (fr1 (sN s34 np)) (fs (sN s34 np))
    -- jump, call, raise
    refine ⟨_, rfl, rfl, _, rfl, ?_⟩
    rw [eq_jump ⟨k, hk⟩]
    refine ite3 (fun e => ?_) (fun e6 => ?_)
    · obtain rfl : k = 13 := of_decide_eq_true e
      refine ⟨_, rfl, (by show 2 ≤ sizeLine; decide), fun z nz => ⟨(by show 1 ≤ sizeLine; decide), fun p np => ?_⟩⟩
      refine q p _ (sN (sN s04 nz) np) ?_ ((sN s04 nz).free np)
      exact rg1 (f := 6) upd_same (SqT.of (sN (Same.refl _) np _ _ upd_same))
    refine ⟨_, rfl, rfl, _, rfl, ?_⟩
    rw [eq_call ⟨k, hk⟩]
    refine ite3 (fun e => ?_) (fun e7 => ?_)
    · obtain rfl : k = 15 := of_decide_eq_true e
      refine ⟨(by show 2 ≤ sizeLine; decide), fun z nz => ⟨(by show 1 ≤ sizeLine; decide), fun p np => ?_⟩⟩
      refine q p _ (sN (sN s04 nz) np) ?_ ((sN s04 nz).free np)
      exact rg1 (f := 7) upd_same (SqT.of (sN (Same.refl _) np _ _ upd_same))
    refine ⟨_, rfl, rfl, _, rfl, ?_⟩
    rw [eq_raise ⟨k, hk⟩]
    refine ite3 (fun e => ?_) (fun e8 => ?_)
    · obtain rfl : k = 19 := of_decide_eq_true e
      refine ⟨(by show 2 ≤ sizeLine; decide), fun z nz => ⟨(by show 1 ≤ sizeLine; decide), fun p np => ?_⟩⟩
      refine q p _ (sN (sN s04 nz) np) ?_ ((sN s04 nz).free np)
      exact rg1 (f := 7) upd_same (SqT.of (sN (Same.refl _) np _ _ upd_same))
    -- high, branch
    refine ⟨_, rfl, rfl, _, rfl, ?_⟩
    rw [eq_high ⟨k, hk⟩]
    refine ite3 (fun e => ?_) (fun e9 => ?_)
    · obtain rfl : k = 9 := of_decide_eq_true e
      refine ⟨_, rfl, _, rfl, (by show 2 ≤ sizeLine; decide), fun z nz => ⟨(by show 2 ≤ sizeLine; decide), fun p np => ?_⟩⟩
      refine q p _ (sN (sN s04 nz) np) ?_ ((sN s04 nz).free np)
      exact rg2 (f := 0) (g := 5) upd_same (fr (sN (sN s34 nz) np)) (SqT.of (sN (Same.refl _) np _ _ upd_same))
    refine ⟨_, rfl, rfl, _, rfl, ?_⟩
    rw [eq_branch ⟨k, hk⟩]
    refine ite3 (fun e => ?_) (fun e10 => ?_)
    · obtain rfl : k = 14 := of_decide_eq_true e
      refine ⟨_, rfl, _, rfl, (by show 2 ≤ sizeLine; decide), fun z nz => ⟨(by show 2 ≤ sizeLine; decide), fun p np => ?_⟩⟩
      refine q p _ (sN (sN s04 nz) np) ?_ ((sN s04 nz).free np)
      exact rg2 (f := 0) (g := 5) upd_same (fr (sN (sN s34 nz) np)) (SqT.of (sN (Same.refl _) np _ _ upd_same))
    -- low
    refine ⟨_, rfl, rfl, _, rfl, ?_⟩
    rw [eq_low ⟨k, hk⟩]
    refine ite3 (fun e => ?_) (fun e11 => ?_)
    · obtain rfl : k = 10 := of_decide_eq_true e
      refine ⟨_, rfl, _, rfl, (by show 2 ≤ sizeLine; decide), fun z nz => ⟨(by show 3 ≤ sizeLine; decide), fun p np => ?_⟩⟩
      refine q p _ (sN (sN s04 nz) np) ?_ ((sN s04 nz).free np)
      exact rg3 (f := 0) (g := 1) (h' := 4) upd_same (fr (sN (sN s34 nz) np)) (fr1 (sN (sN s34 nz) np)) (SqT.of (sN (Same.refl _) np _ _ upd_same))
    -- the others
    refine ⟨_, rfl, _, rfl, _, rfl, (by show 3 ≤ sizeLine; decide), fun p np => ?_⟩
    refine q p _ (sN s04 np) ?_ (s04.free np)
    have e' : rgs k b = [0, 1, kdS b] := by
      have h0 := of_decide_eq_false e0
      have h5 := of_decide_eq_false e5
      have hne : ∀ z : Nat, decide (k = z) = false → k ≠ z := fun z h => of_decide_eq_false h
      have a1 := hne _ e1; have a2 := hne _ e2; have a3 := hne _ e3; have a4 := hne _ e4; have a6 := hne _ e6; have a7 := hne _ e7; have a8 := hne _ e8; have a9 := hne _ e9; have a10 := hne _ e10; have a11 := hne _ e11
      unfold rgs
      rw [fc_rest ⟨k, hk⟩ (by simp only [List.mem_cons, List.mem_nil_iff, or_false, not_or] at h0 h5 ⊢; omega)]
      rfl
    rw [e']
    exact rg3 upd_same (fr (sN s34 np)) (fr1 (sN s34 np)) (fs (sN s34 np))
end

theorem okF_r {f : Nat} {x : Int} (h : okF f x = true) : fLo f ≤ x ∧ x ≤ fHi f := by
  unfold okF at h
  by_cases c : fLo f ≤ x
  · rw [decide_eq_true c] at h
    exact ⟨c, of_decide_eq_true (show decide (x ≤ fHi f) = true from h)⟩
  · rw [decide_eq_false c] at h
    exact nomatch h
theorem cond_t {a b : Bool} (h : cond a b false = true) : a = true ∧ b = true := by cases a <;> cases b <;> first | exact ⟨rfl, rfl⟩ | exact nomatch h
def pre (k : Nat) : List Int := if k ∈ ([20, 24, 25] : List Nat) then [0] else if k = 22 ∨ k = 27 then [0, 0] else []
def encF (k : Nat) (b : Bool) (ms : List Int) : Int :=
  if k = 9 ∨ k = 14 then (k : Int) * 67108864 + ms.getD 0 0 * 2097152 + ms.getD 1 0 % 2097152
  else if k = 23 ∨ k = 26 then (k : Int) * 67108864 + ms.getD 0 0 * 2097152
  else if k = 10 then (k : Int) * 67108864 + ms.getD 0 0 * 2097152 + ms.getD 1 0 * 65536 + 32768 + ms.getD 2 0
  else if b = true then (k : Int) * 67108864 + ms.getD 0 0 * 2097152 + ms.getD 1 0 * 65536 + 32768 + ms.getD 2 0 % 32768
  else (k : Int) * 67108864 + ms.getD 0 0 * 2097152 + ms.getD 1 0 * 65536 + ms.getD 2 0
def need (k : Nat) : Nat := if k = 9 ∨ k = 14 then 2 else if k = 23 ∨ k = 26 then 1 else 3
theorem src_val {b : Bool} {x : Int} (h : okF (kdS b) x = true) : bitF (kdS b) x = if b = true then x % 32768 + 32768 else x := by
  have := okF_r h
  cases b with
  | true => show x % 32768 * 1 + 32768 = x % 32768 + 32768; omega
  | false =>
    have h1 : (0 : Int) ≤ x := this.1
    have h2 : x ≤ 31 := this.2
    show x % 32768 * 1 = x
    omega
theorem bit_d {x : Int} (h : okF 0 x = true) : bitF 0 x = x * 2097152 := by
  have h1 : (0 : Int) ≤ x := (okF_r h).1
  have h2 : x ≤ 31 := (okF_r h).2
  show x % 32 * 2097152 = x * 2097152
  rw [Int.emod_eq_of_lt h1 (by omega)]
theorem bit_a {x : Int} (h : okF 1 x = true) : bitF 1 x = x * 65536 := by
  have h1 : (0 : Int) ≤ x := (okF_r h).1
  have h2 : x ≤ 31 := (okF_r h).2
  show x % 32 * 65536 = x * 65536
  rw [Int.emod_eq_of_lt h1 (by omega)]
theorem bit_part {x : Int} (h : okF 4 x = true) : bitF 4 x = x + 32768 := by
  have h1 : (0 : Int) ≤ x := (okF_r h).1
  have h2 : x ≤ 2047 := (okF_r h).2
  show x % 32768 * 1 + 32768 = x + 32768
  omega
theorem enc_eq (k : Nat) (hk : k < 29) (b : Bool) (ns : List Int) (hl : (fm k).length = ns.length) (ho : okN b (fm k) ns = true) (h0 : ¬ k ∈ ([0, 17, 18, 21, 28] : List Nat)) (h1 : ¬ k ∈ ([13, 15, 19] : List Nat)) :
    encV k (arL b (fm k) ns) = encF k b (pre k ++ ns) ∧ need k ≤ (pre k ++ ns).length := by
  unfold encV
  by_cases c1 : k = 9 ∨ k = 14
  · have hf : fm k = [0, 5] := by rcases c1 with rfl | rfl <;> rfl
    rw [hf] at hl ho ⊢
    match ns, hl with
    | [x, y], _ =>
      obtain ⟨o1, o2⟩ := cond_t ho
      have hp : pre k = [] := by rcases c1 with rfl | rfl <;> rfl
      unfold encF need
      rw [if_pos c1, if_pos c1, hp]
      refine ⟨?_, Nat.le_refl 2⟩
      show (k : Int) * 67108864 + (bitF 0 x + (y % 2097152 * 1 + 0)) = (k : Int) * 67108864 + x * 2097152 + y % 2097152
      rw [bit_d o1]; omega
  by_cases c2 : k = 23 ∨ k = 26
  · have hf : fm k = [0] := by rcases c2 with rfl | rfl <;> rfl
    rw [hf] at hl ho ⊢
    match ns, hl with
    | [x], _ =>
      obtain ⟨o1, o2⟩ := cond_t ho
      have hp : pre k = [] := by rcases c2 with rfl | rfl <;> rfl
      unfold encF need
      rw [if_neg c1, if_neg c1, if_pos c2, if_pos c2, hp]
      refine ⟨?_, Nat.le_refl 1⟩
      show (k : Int) * 67108864 + (bitF 0 x + 0) = (k : Int) * 67108864 + x * 2097152
      rw [bit_d o1]; omega
  by_cases c3 : k = 10
  · subst c3
    match ns, hl with
    | [x, y, z], _ =>
      obtain ⟨o1, o2⟩ := cond_t ho
      obtain ⟨o2, o3⟩ := cond_t o2
      obtain ⟨o3, _⟩ := cond_t o3
      refine ⟨?_, by show 3 ≤ 3; decide⟩
      show (10 : Int) * 67108864 + (bitF 0 x + (bitF 1 y + (bitF 4 z + 0))) = (10 : Int) * 67108864 + x * 2097152 + y * 65536 + 32768 + z
      rw [bit_d o1, bit_a o2, bit_part o3]; omega
  have hE : ∀ ms : List Int, encF k b ms = if b = true then (k : Int) * 67108864 + ms.getD 0 0 * 2097152 + ms.getD 1 0 * 65536 + 32768 + ms.getD 2 0 % 32768 else (k : Int) * 67108864 + ms.getD 0 0 * 2097152 + ms.getD 1 0 * 65536 + ms.getD 2 0 := fun ms => by
    unfold encF; rw [if_neg c1, if_neg c2, if_neg c3]
  have hN : need k = 3 := by unfold need; rw [if_neg c1, if_neg c2]
  rw [hE, hN]
  by_cases c4 : k ∈ ([20, 24, 25] : List Nat)
  · have hf := fc_two ⟨k, hk⟩ c4
    dsimp only at hf
    rw [hf] at hl ho ⊢
    match ns, hl with
    | [x, y], _ =>
      obtain ⟨o1, o2⟩ := cond_t ho
      obtain ⟨o2, _⟩ := cond_t o2
      have o2 : okF (kdS b) y = true := o2
      rw [show pre k = [0] from if_pos c4]
      refine ⟨?_, Nat.le_refl 3⟩
      show (k : Int) * 67108864 + (bitF 1 x + (bitF (kdS b) y + 0)) = if b = true then (k : Int) * 67108864 + 0 * 2097152 + x * 65536 + 32768 + y % 32768 else (k : Int) * 67108864 + 0 * 2097152 + x * 65536 + y
      rw [bit_a o1, src_val o2]; cases b <;> simp <;> omega
  by_cases c5 : k = 22 ∨ k = 27
  · have hf : fm k = [8] := by rcases c5 with rfl | rfl <;> rfl
    rw [hf] at hl ho ⊢
    match ns, hl with
    | [y], _ =>
      obtain ⟨o2, _⟩ := cond_t ho
      have o2 : okF (kdS b) y = true := o2
      rw [show pre k = [0, 0] by unfold pre; rw [if_neg c4, if_pos c5]]
      refine ⟨?_, Nat.le_refl 3⟩
      show (k : Int) * 67108864 + (bitF (kdS b) y + 0) = if b = true then (k : Int) * 67108864 + 0 * 2097152 + 0 * 65536 + 32768 + y % 32768 else (k : Int) * 67108864 + 0 * 2097152 + 0 * 65536 + y
      rw [src_val o2]; cases b <;> simp <;> omega
  · have hf := fc_rest ⟨k, hk⟩ (by simp only [List.mem_cons, List.mem_nil_iff, or_false, not_or] at h0 h1 c4 ⊢; omega)
    dsimp only at hf
    rw [hf] at hl ho ⊢
    match ns, hl with
    | [x, y, z], _ =>
      obtain ⟨o1, o2⟩ := cond_t ho
      obtain ⟨o2, o3⟩ := cond_t o2
      obtain ⟨o3, _⟩ := cond_t o3
      have o3 : okF (kdS b) z = true := o3
      rw [show pre k = [] by unfold pre; rw [if_neg c4, if_neg c5]]
      refine ⟨?_, Nat.le_refl 3⟩
      show (k : Int) * 67108864 + (bitF 0 x + (bitF 1 y + (bitF (kdS b) z + 0))) = if b = true then (k : Int) * 67108864 + x * 2097152 + y * 65536 + 32768 + z % 32768 else (k : Int) * 67108864 + x * 2097152 + y * 65536 + z
      rw [bit_d o1, bit_a o2, src_val o3]; cases b <;> simp <;> omega
theorem enc_none (k : Nat) (hk : k < 29) (b : Bool) (h : k ∈ ([0, 17, 18, 21, 28] : List Nat)) : encV k (arL b (fm k) []) = (k : Int) * 67108864 := by
  unfold encV
  have := fc_none ⟨k, hk⟩ h
  dsimp only at this
  rw [this]
  show (k : Int) * 67108864 + 0 = _
  omega
theorem enc_one (k : Nat) (hk : k < 29) (b : Bool) (x : Int) (h : k ∈ ([13, 15, 19] : List Nat)) : encV k (arL b (fm k) [x]) = (k : Int) * 67108864 + x % 67108864 := by
  unfold encV
  have := fc_one ⟨k, hk⟩ h
  dsimp only at this
  rcases this with e | e
  · rw [e]; show (k : Int) * 67108864 + (x % 67108864 * 1 + 0) = _; omega
  · rw [e]; show (k : Int) * 67108864 + (x % 67108864 * 1 + 0) = _; omega
theorem cut_init {ys : List V} {v : V} : cutV (ys ++ [v]) none (some (-1)) = ys := by
  unfold cutV
  have e : HT.sIx (ys ++ [v]).length (ys ++ [v]).length (some (-1)) = ys.length := by
    show (if (-1 : Int) < 0 then ((-1 : Int) + ((ys ++ [v]).length : Int)).toNat else min (-1 : Int).toNat (ys ++ [v]).length) = _
    rw [if_pos (by decide)]
    simp
    omega
  rw [e, HT.sIx_none, List.drop_zero, Nat.sub_zero]
  simp
section
variable {P : Program} {w : World} {K : PySem.W.Frag} {mg : Str → Option Value} {base : Heap} {a : Ad}
theorem ok_law_instruction (T : Txt w K mg a) : FnOk P w K mg base CX0 1 a.f_law_instruction a.d_law_instruction ["name", "kind", "numbers"] (spInstr K) := by
  refine T.F__law_instruction.ok sc_law_instruction (fun vs H Q E h => ?_) (fun cdv A outer s H vs Q E hr h => ?_)
  · obtain ⟨_, _, _, _, _, rfl, _⟩ := h; rfl
  · obtain ⟨k, b, np, ns, hk, rfl, hn, hl, q⟩ := h
    have hlen : ns.length ≤ 3 := by
      have : ∀ k : _root_.Fin 29, (fm k.val).length ≤ 3 := by decide +kernel
      rw [← hl]; exact this ⟨k, hk⟩
    refine ⟨_, (pss_cons (ps_if (PW.pt (pw_or (pt_cmpR op_eq (pe_callB call_len_seq (by rfl) T.b_len (by decide +kernel) (pa_cons (pv 2) pa_nil)) pe_int (nomark _)) (pw_or1 (pt_cmpR op_inS (pv 0) (pe_lst (pa_cons pe_str (pa_cons pe_str (pa_cons pe_str (pa_cons pe_str (pa_cons pe_str (pa_cons pe_str (pa_cons pe_str (pa_cons pe_str pa_nil))))))))) rfl)))) (pss_one (ps_ret (pe_op op_catT (pe_tup (pa_cons (pv 0) pa_nil)) (pe_callTy call_tuple_of (by rfl) T.b_tuple (by decide +kernel) (pa_cons (pv 2) pa_nil))))) pss_nil)
      (pss_one (ps_ret (pe_op op_catT (pe_op op_catT (pe_tup (pa_cons (pv 0) pa_nil)) (pe_callTy call_tuple_of (by rfl) T.b_tuple (by decide +kernel) (pa_cons (pe_slice sl_list (pv 2) po_none (po_some (pe_un un_neg pe_int))) pa_nil))) (pe_tup (pa_cons (pe_tup (pa_cons (pv 1) (pa_cons (pe_ix ix_list (pv 2) (pe_un un_neg pe_int) (fun _ _ => rfl)) pa_nil))) pa_nil)))))), ?_⟩
    have plain : (∀ f ∈ fm k, f < 8) → ∀ H1, Same H H1 → tRet (tOp (rCatT K) (tTup (tCons (tVar 0) tNil)) (tCB (fun xs H Q => ∃ p ys, xs = [.ref p] ∧ ((SqL K H p ys ∧ ∀ l, H l = none → Q (.ref l) (upd H l (.tup ys))) ∨ (SqT K H p ys ∧ Q (.ref p) H))) (tCons (tVar 2) tNil))) { nx := fun _ H' => Q .non H', rt := Q } [some (.str (nmS k)), some (.str (fS (kdS b))), some (.ref np)] H1 := fun h8 H1 s1 => by
      refine ⟨_, rfl, (by show 1 ≤ sizeLine; decide), fun p1 n1 => ⟨_, rfl, np, _, rfl, .inl ⟨SqL.of (sN (Same.refl _) n1 _ _ (s1 _ _ hn)), fun p2 n2 => ?_⟩⟩⟩
      have a1 := sN (Same.refl _) n2 (o := .tup (ns.map V.int)) p1 (.tup [V.str (nmS k)]) upd_same
      have s2 := sN (sN s1 n1 (o := .tup [V.str (nmS k)])) n2 (o := .tup (ns.map V.int))
      refine ⟨p1, p2, _, _, rfl, rfl, SqT.of a1, SqT.of upd_same, by simp, by simp; have := sizeLine_eq; omega, fun e => ?_, fun e p3 n3 => ?_⟩
      · have en : ns = [] := by simpa using e
        subst en
        exact q p1 [] _ s2 (SqT.of a1) (arv_plain h8 hl)
      · exact q p3 (ns.map V.int) _ (sN s2 n3) (SqT.of upd_same) (arv_plain h8 hl)
    refine ⟨_, rfl, _, _, rfl, .inl (SqL.of hn), rfl, _, rfl, ite3 (fun e => ?_) (fun e => ?_)⟩
    · have en : ns.length = 0 := by simpa using e
      refine plain (fun f hf => ?_) H (Same.refl H)
      rw [List.eq_nil_of_length_eq_zero (hl.trans en)] at hf
      exact absurd hf (by simp)
    have en : ns.length ≠ 0 := by intro z; rw [List.length_map, z] at e; simp at e
    refine ⟨_, rfl, (by show 8 ≤ sizeLine; decide), fun p np' => ⟨_, _, rfl, .inl (SqL.of upd_same), rfl, rfl, _, rfl, ?_⟩⟩
    rw [in_plain ⟨k, hk⟩ (by dsimp only; omega)]
    have s1 := sN (Same.refl H) np' (o := .lst [V.str "get", V.str "bar", V.str "jump", V.str "call", V.str "raise", V.str "high", V.str "branch", V.str "low"])
    refine ite3 (fun e1 => ?_) (fun e1 => ?_)
    · exact plain ((src_form ⟨k, hk⟩).2 (by simpa using e1)) _ s1
    · obtain ⟨hfm, h8⟩ := (src_form ⟨k, hk⟩).1 (by simpa using e1)
      dsimp only at hfm h8
      generalize upd H p (.lst [V.str "get", V.str "bar", V.str "jump", V.str "call", V.str "raise", V.str "high", V.str "branch", V.str "low"]) = H1 at s1 ⊢
      obtain ⟨ms, x, rfl⟩ : ∃ ms x, ns = ms ++ [x] := ⟨ns.dropLast, ns.getLast (by intro z; rw [z] at en; exact en rfl), (List.dropLast_concat_getLast _).symm⟩
      have hl2 : (fm k).dropLast.length = ms.length := by
        rw [List.length_dropLast, hl]; simp
      have hn1 := s1 _ _ hn
      rw [List.map_append] at hn1
      refine ⟨_, rfl, (by show 1 ≤ sizeLine; decide), fun p1 n1 => ?_⟩
      have s2 := sN s1 n1 (o := .tup [V.str (nmS k)])
      have a1 : upd H1 p1 (.tup [V.str (nmS k)]) p1 = some (.tup [V.str (nmS k)]) := upd_same
      have hn2 := sN (Same.refl _) n1 (o := .tup [V.str (nmS k)]) _ _ hn1
      generalize upd H1 p1 (.tup [V.str (nmS k)]) = H2 at s2 a1 hn2 ⊢
      refine ⟨_, rfl, _, rfl, _, rfl, np, _, rfl, SqL.of hn2, fun pl npl => ?_⟩
      rw [show cutV (ms.map V.int ++ [x].map V.int) none (some (-1)) = ms.map V.int from cut_init]
      refine ⟨pl, _, rfl, .inl ⟨SqL.of upd_same, fun p2 n2 => ?_⟩⟩
      have s3 := sN (sN s2 npl (o := .lst (ms.map V.int))) n2 (o := .tup (ms.map V.int))
      have a2 := sN (sN (Same.refl H2) npl (o := .lst (ms.map V.int))) n2 (o := .tup (ms.map V.int)) _ _ a1
      have hn3 := sN (sN (Same.refl H2) npl (o := .lst (ms.map V.int))) n2 (o := .tup (ms.map V.int)) _ _ hn2
      have ap2 : upd (upd H2 pl (.lst (ms.map V.int))) p2 (.tup (ms.map V.int)) p2 = some (.tup (ms.map V.int)) := upd_same
      generalize upd (upd H2 pl (.lst (ms.map V.int))) p2 (.tup (ms.map V.int)) = H3 at s3 a2 hn3 ap2 ⊢
      have fin : ∀ (hd : Addr) (H4 : Hp), Same H3 H4 → H4 hd = some (.tup (V.str (nmS k) :: ms.map V.int)) → tTup (tCons (tTup (tCons (tVar 1) (tCons (tOp (rIxL K) (tVar 2) (tUn (rU fun i => V.int (-i)) (tC (.int 1)))) tNil))) tNil) [some (.str (nmS k)), some (.str (fS (kdS b))), some (.ref np)] H4 (fun y H5 => rCatT K (.ref hd) y H5 Q) := fun hd H4 s4 hh => by
        refine ⟨_, rfl, _, rfl, _, rfl, _, _, _, _, rfl, rfl, SqL.of (s4 _ _ hn3), atI_last _ _, (by show 2 ≤ sizeLine; decide), fun p4 n4 => ⟨(by show 1 ≤ sizeLine; decide), fun p5 n5 => ?_⟩⟩
        have b4 := sN (Same.refl _) n5 (o := .tup [V.ref p4]) p4 (.tup [V.str (fS (kdS b)), V.int x]) upd_same
        have s5 := sN (sN (Same.refl H4) n4 (o := .tup [V.str (fS (kdS b)), V.int x])) n5 (o := .tup [V.ref p4])
        refine ⟨hd, p5, _, _, rfl, rfl, SqT.of (s5 _ _ hh), SqT.of upd_same, by simp, by simp at hlen ⊢; have := sizeLine_eq; omega, fun e => absurd e (by simp), fun _ p6 n6 => ?_⟩
        have s6 := sN s5 n6 (o := .tup (V.str (nmS k) :: ms.map V.int ++ [V.ref p4]))
        refine q p6 (ms.map V.int ++ [V.ref p4]) _ ((s3.trans s4).trans s6) (SqT.of upd_same) ?_
        rw [hfm]
        exact arv_src (SqT.of (sN (Same.refl _) n6 (o := .tup (V.str (nmS k) :: ms.map V.int ++ [V.ref p4])) _ _ b4)) h8 hl2
      refine ⟨p1, p2, _, _, rfl, rfl, SqT.of a2, SqT.of ap2, by simp, by simp at hlen ⊢; have := sizeLine_eq; omega, fun e => ?_, fun e p3 n3 => ?_⟩
      · have em : ms = [] := by simpa using e
        subst em
        exact fin p1 H3 (Same.refl _) a2
      · exact fin p3 _ (sN (Same.refl _) n3) upd_same
end

section
variable {P : Program} {w : World} {K : PySem.W.Frag} {mg : Str → Option Value} {base : Heap} {a : Ad}
theorem nms_find (k : Nat) (hk : k < 29) : (nms.map V.str)[k]? = some (V.str (nmS k)) ∧ ∀ (m : Nat) (z : V), m < k → (nms.map V.str)[m]? = some z → eqV z (.str (nmS k)) = false := by
  have h1 : ∀ k : _root_.Fin 29, (nms.map V.str)[k.val]? = some (V.str (nmS k.val)) := by decide +kernel
  have h2 : ∀ k m : _root_.Fin 29, m.val < k.val → eqV (.str (nmS m.val)) (.str (nmS k.val)) = false := by decide +kernel
  refine ⟨h1 ⟨k, hk⟩, fun m z hm e => ?_⟩
  rw [h1 ⟨m, by omega⟩] at e
  obtain rfl := Option.some.inj e
  exact h2 ⟨k, hk⟩ ⟨m, by omega⟩ hm
theorem ok_law_encoded (T : Txt w K mg a) : FnOk P w K mg base CX0 2 a.f_law_encoded a.d_law_encoded ["name", "kind", "numbers"] (spEncd K) := by
  have G_law_names : FnOk P w K mg base CX0 1 _ _ _ _ := ok_law_names T
  refine T.F__law_encoded.ok sc_law_encoded (fun vs H Q E h => ?_) (fun cdv A outer s H vs Q E hr h => ?_)
  · obtain ⟨_, _, _, _, _, rfl, _⟩ := h; rfl
  · obtain ⟨k, b, np, ns, hk, rfl, hn, hl, ho, q⟩ := h
    refine ⟨_, (C8.pss_cut (ps_set (i := 3) sc_law_encoded.nd rfl (Or.inl rfl) (pe_op op_mul (pe_bm PySem.F.plainAttrs_list PySem.F.slot_list_index PySem.F.type_list_index mt_index (pe_call0 G_law_names (hr.mono (by decide)) rfl T.g__law_names T.k__law_names T.bd__law_names .nil pass0) (pa_cons (pv 0) pa_nil)) pe_int))
      (pss_cons (ps_if (pt_cmpR op_eq (pe_callB call_len_seq (by rfl) T.b_len (by decide +kernel) (pa_cons (pv 2) pa_nil)) pe_int (nomark _)) (pss_one (ps_ret (pv 3))) pss_nil)
      (pss_cons (ps_if (pt_cmpR op_inS (pv 0) (pe_lst (pa_cons pe_str (pa_cons pe_str (pa_cons pe_str pa_nil)))) rfl) (pss_one (ps_ret (pe_op op_add (pv 3) (pe_op op_mod (pe_callTy call_int1 (by rfl) T.b_int (by decide +kernel) (pa_cons (pe_ix ix_list (pv 2) pe_int (fun _ _ => rfl)) pa_nil)) pe_int)))) pss_nil)
      (C8.pss_cut (ps_if (pt_cmpR op_inS (pv 0) (pe_lst (pa_cons pe_str (pa_cons pe_str (pa_cons pe_str pa_nil)))) rfl) (pss_one (ps_set (i := 2) sc_law_encoded.nd rfl (Or.inl rfl) (pe_op op_cat (pe_lst (pa_cons pe_int pa_nil)) (pv 2)))) pss_nil)
      (C8.pss_cut (ps_if (PW.pt (pw_or (pt_cmpR op_eq (pv 0) pe_str (nomark _)) (pw_or1 (pt_cmpR op_eq (pv 0) pe_str (nomark _))))) (pss_one (ps_set (i := 2) sc_law_encoded.nd rfl (Or.inl rfl) (pe_op op_cat (pe_lst (pa_cons pe_int (pa_cons pe_int pa_nil))) (pv 2)))) pss_nil)
      (pss_cons (ps_set (i := 3) sc_law_encoded.nd rfl (Or.inl rfl) (pe_op op_add (pv 3) (pe_op op_mul (pe_ix ix_list (pv 2) pe_int (fun _ _ => rfl)) pe_int)))
      (pss_cons (ps_if (PW.pt (pw_or (pt_cmpR op_eq (pv 0) pe_str (nomark _)) (pw_or1 (pt_cmpR op_eq (pv 0) pe_str (nomark _))))) (pss_one (ps_ret (pe_op op_add (pv 3) (pe_op op_mod (pe_callTy call_int1 (by rfl) T.b_int (by decide +kernel) (pa_cons (pe_ix ix_list (pv 2) pe_int (fun _ _ => rfl)) pa_nil)) pe_int)))) pss_nil)
      (pss_cons (ps_if (PW.pt (pw_or (pt_cmpR op_eq (pv 0) pe_str (nomark _)) (pw_or1 (pt_cmpR op_eq (pv 0) pe_str (nomark _))))) (pss_one (ps_ret (pv 3))) pss_nil)
      (pss_cons (ps_set (i := 3) sc_law_encoded.nd rfl (Or.inl rfl) (pe_op op_add (pv 3) (pe_op op_mul (pe_ix ix_list (pv 2) pe_int (fun _ _ => rfl)) pe_int)))
      (pss_cons (ps_if (pt_cmpR op_eq (pv 0) pe_str (nomark _)) (pss_one (ps_ret (pe_op op_add (pe_op op_add (pv 3) pe_int) (pe_ix ix_list (pv 2) pe_int (fun _ _ => rfl))))) pss_nil)
      (pss_cons (ps_if (pt_cmpR op_eq (pv 1) pe_str (nomark _)) (pss_one (ps_ret (pe_op op_add (pe_op op_add (pv 3) pe_int) (pe_op op_mod (pe_callTy call_int1 (by rfl) T.b_int (by decide +kernel) (pa_cons (pe_ix ix_list (pv 2) pe_int (fun _ _ => rfl)) pa_nil)) pe_int)))) pss_nil)
      (pss_one (ps_ret (pe_op op_add (pv 3) (pe_ix ix_list (pv 2) pe_int (fun _ _ => rfl)))))))))))))))), ?_⟩
    refine ⟨fun σ H' => Same H H' ∧ σ = [some (.str (nmS k)), some (.str (fS (kdS b))), some (.ref np), some (.int ((k : Int) * 67108864))], ?_, ?_⟩
    · refine ⟨rfl, fun p n => ⟨.inl ⟨rfl, _, SqL.of upd_same⟩, _, rfl, p, _, _, k, _, rfl, rfl, SqL.of upd_same, rfl, by decide +kernel, (nms_find k hk).1, by simp [eqV], (nms_find k hk).2, ?_⟩⟩
      exact ⟨_, _, rfl, rfl, .inr ⟨by decide, by decide⟩, sN (Same.refl H) n, rfl⟩
    rintro σ H1 ⟨s1, rfl⟩
    have hn1 := s1 _ _ hn
    refine ⟨_, rfl, _, _, rfl, .inl (SqL.of hn1), rfl, _, rfl, ite3 (fun e => ?_) (fun e0 => ?_)⟩
    · have en : ns.length = 0 := by simpa using e
      have ens : ns = [] := List.eq_nil_of_length_eq_zero en
      subst ens
      have hm : k ∈ ([0, 17, 18, 21, 28] : List Nat) := by
        have : ∀ k : _root_.Fin 29, (fm k.val).length = 0 → k.val ∈ ([0, 17, 18, 21, 28] : List Nat) := by decide +kernel
        exact this ⟨k, hk⟩ hl
      have q' := q _ s1
      rw [enc_none k hk b hm] at q'
      exact ⟨_, rfl, q'⟩
    have en : ns.length ≠ 0 := by intro z; rw [List.length_map, z] at e0; simp at e0
    have h0 : ¬ k ∈ ([0, 17, 18, 21, 28] : List Nat) := fun h => by
      have := fc_none ⟨k, hk⟩ h
      dsimp only at this
      rw [this] at hl
      exact en hl.symm
    refine ⟨_, rfl, (by show 3 ≤ sizeLine; decide), fun p np1 => ⟨_, _, rfl, .inl (SqL.of upd_same), rfl, rfl, _, rfl, ?_⟩⟩
    rw [in_one ⟨k, hk⟩]
    have s2 := sN s1 np1 (o := .lst [V.str "jump", V.str "call", V.str "raise"])
    have hn2 := sN (Same.refl _) np1 (o := .lst [V.str "jump", V.str "call", V.str "raise"]) _ _ hn1
    generalize upd H1 p (.lst [V.str "jump", V.str "call", V.str "raise"]) = H2 at s2 hn2 ⊢
    refine ite3 (fun e => ?_) (fun e1 => ?_)
    · have h1 : k ∈ ([13, 15, 19] : List Nat) := of_decide_eq_true e
      have hf := fc_one ⟨k, hk⟩ h1
      have hl1 : ns.length = 1 := by rcases hf with hf | hf <;> (dsimp only at hf; rw [hf] at hl; exact hl.symm)
      match ns, hl1 with
      | [x], _ =>
        have q' := q _ s2
        rw [enc_one k hk b x h1] at q'
        exact ⟨_, rfl, _, rfl, _, _, _, _, rfl, rfl, SqL.of hn2, at0, .inl ⟨_, rfl, _, _, rfl, rfl, (by show (0 : Int) < 67108864; decide), _, _, rfl, rfl, q'⟩⟩
    have h1 : ¬ k ∈ ([13, 15, 19] : List Nat) := of_decide_eq_false e1
    obtain ⟨eE, eN⟩ := enc_eq k hk b ns hl ho h0 h1
    rw [eE] at q
    have hlen : ns.length ≤ 3 := by
      have : ∀ k : _root_.Fin 29, (fm k.val).length ≤ 3 := by decide +kernel
      rw [← hl]; exact this ⟨k, hk⟩
    -- again, below, above
    refine ⟨fun σ H' => ∃ n2 ms, Same H H' ∧ H' n2 = some (.lst (ms.map V.int)) ∧ ms = (if k ∈ ([20, 24, 25] : List Nat) then [0] else []) ++ ns ∧ σ = [some (.str (nmS k)), some (.str (fS (kdS b))), some (.ref n2), some (.int ((k : Int) * 67108864))], ?_, ?_⟩
    · refine ⟨_, rfl, (by show 3 ≤ sizeLine; decide), fun p np1 => ⟨_, _, rfl, .inl (SqL.of upd_same), rfl, rfl, _, rfl, ?_⟩⟩
      rw [in_two ⟨k, hk⟩]
      have s3 := sN s2 np1 (o := .lst [V.str "again", V.str "below", V.str "above"])
      have hn3 := sN (Same.refl _) np1 (o := .lst [V.str "again", V.str "below", V.str "above"]) _ _ hn2
      generalize upd H2 p (.lst [V.str "again", V.str "below", V.str "above"]) = H3 at s3 hn3 ⊢
      refine ite3 (fun e => ?_) (fun e2 => ?_)
      · refine ⟨(by show 1 ≤ sizeLine; decide), fun z nz => ⟨_, rfl, _, _, _, _, rfl, rfl, upd_same, sN (Same.refl _) nz _ _ hn3, by simp; have := sizeLine_eq; omega, fun r nr => ?_⟩⟩
        refine ⟨r, 0 :: ns, sN (sN s3 nz) nr, upd_same, ?_, rfl⟩
        rw [if_pos (of_decide_eq_true e)]
        rfl
      · refine ⟨np, ns, s3, hn3, ?_, rfl⟩
        rw [if_neg (of_decide_eq_false e2)]
        rfl
    rintro σ H3 ⟨n2, ms, s3, hn3, hms, rfl⟩
    refine ⟨fun σ H' => ∃ n2, Same H H' ∧ H' n2 = some (.lst ((pre k ++ ns).map V.int)) ∧ σ = [some (.str (nmS k)), some (.str (fS (kdS b))), some (.ref n2), some (.int ((k : Int) * 67108864))], ?_, ?_⟩
    · have two : k = 22 ∨ k = 27 → ∀ (z r : Addr), H3 z = none → upd H3 z (.lst [V.int 0, V.int 0]) r = none → ∃ n2, Same H (upd (upd H3 z (.lst [V.int 0, V.int 0])) r (.lst ([V.int 0, V.int 0] ++ ms.map V.int))) ∧ upd (upd H3 z (.lst [V.int 0, V.int 0])) r (.lst ([V.int 0, V.int 0] ++ ms.map V.int)) n2 = some (.lst ((pre k ++ ns).map V.int)) ∧ n2 = r := fun e z r nz nr => by
        refine ⟨r, sN (sN s3 nz) nr, ?_, rfl⟩
        rw [upd_same, hms]
        rcases e with rfl | rfl <;> rfl
      have sz2 : [V.int 0, V.int 0].length + (ms.map V.int).length ≤ sizeLine := by
        have : ms.length ≤ 4 := by rw [hms]; split <;> simp <;> omega
        rw [List.length_map]; have := sizeLine_eq; simp; omega
      refine ⟨_, rfl, rfl, _, rfl, ?_⟩
      rw [eq_put ⟨k, hk⟩]
      refine ite3 (fun e => ?_) (fun e2 => ⟨_, rfl, rfl, _, rfl, ?_⟩)
      · refine ⟨(by show 2 ≤ sizeLine; decide), fun z nz => ⟨_, rfl, _, _, _, _, rfl, rfl, upd_same, sN (Same.refl _) nz _ _ hn3, sz2, fun r nr => ?_⟩⟩
        obtain ⟨n4, t1, t2, rfl⟩ := two (.inl (of_decide_eq_true e)) z r nz nr
        exact ⟨_, t1, t2, rfl⟩
      rw [eq_setbar ⟨k, hk⟩]
      refine ite3 (fun e => ?_) (fun e3 => ?_)
      · refine ⟨(by show 2 ≤ sizeLine; decide), fun z nz => ⟨_, rfl, _, _, _, _, rfl, rfl, upd_same, sN (Same.refl _) nz _ _ hn3, sz2, fun r nr => ?_⟩⟩
        obtain ⟨n4, t1, t2, rfl⟩ := two (.inr (of_decide_eq_true e)) z r nz nr
        exact ⟨_, t1, t2, rfl⟩
      · refine ⟨n2, s3, ?_, rfl⟩
        have g2 : k ≠ 22 := of_decide_eq_false e2
        have g3 : k ≠ 27 := of_decide_eq_false e3
        rw [hn3, hms]
        unfold pre
        by_cases c : k ∈ ([20, 24, 25] : List Nat)
        · rw [if_pos c, if_pos c]
        · rw [if_neg c, if_neg c, if_neg (by omega)]
    clear hn3 s3 hms ms n2
    rintro σ H4 ⟨n2, s4, hn4, rfl⟩
    generalize pre k ++ ns = ms at q eE eN hn4
    have q := q _ s4
    have at_ : ∀ j, j < need k → atI (ms.map V.int) (j : Int) = some (.int (ms.getD j 0)) := fun j hj => atI_nat (at_map (by omega))
    have n1 : 1 ≤ need k := by unfold need; repeat' split
                               all_goals decide
    have a0 := at_ 0 n1
    refine ⟨_, rfl, _, rfl, _, _, _, _, rfl, rfl, SqL.of hn4, a0, _, _, rfl, rfl, .inr ⟨by decide, by decide⟩, _, _, rfl, rfl, ?_⟩
    unfold encF at q
    unfold need at at_
    refine ⟨_, rfl, rfl, _, rfl, ?_⟩
    rw [eq_high ⟨k, hk⟩]
    refine ite3 (fun e => ?_) (fun c1 => ⟨_, rfl, rfl, _, rfl, ?_⟩)
    · have c : k = 9 ∨ k = 14 := .inl (of_decide_eq_true e)
      rw [if_pos c] at q at_
      exact ⟨_, rfl, _, rfl, _, _, _, _, rfl, rfl, SqL.of hn4, at_ 1 (by decide), .inl ⟨_, rfl, _, _, rfl, rfl, (by show (0 : Int) < 2097152; decide), _, _, rfl, rfl, q⟩⟩
    rw [eq_branch ⟨k, hk⟩]
    refine ite3 (fun e => ?_) (fun c2 => ?_)
    · have c : k = 9 ∨ k = 14 := .inr (of_decide_eq_true e)
      rw [if_pos c] at q at_
      exact ⟨_, rfl, _, rfl, _, _, _, _, rfl, rfl, SqL.of hn4, at_ 1 (by decide), .inl ⟨_, rfl, _, _, rfl, rfl, (by show (0 : Int) < 2097152; decide), _, _, rfl, rfl, q⟩⟩
    have g1 : k ≠ 9 := of_decide_eq_false c1
    have g2 : k ≠ 14 := of_decide_eq_false c2
    rw [if_neg (by omega)] at q at_
    refine ⟨_, rfl, rfl, _, rfl, ?_⟩
    rw [eq_get ⟨k, hk⟩]
    refine ite3 (fun e => ?_) (fun c1 => ⟨_, rfl, rfl, _, rfl, ?_⟩)
    · have c : k = 23 ∨ k = 26 := .inl (of_decide_eq_true e)
      rw [if_pos c] at q
      exact ⟨_, rfl, q⟩
    rw [eq_bar ⟨k, hk⟩]
    refine ite3 (fun e => ?_) (fun c2 => ?_)
    · have c : k = 23 ∨ k = 26 := .inr (of_decide_eq_true e)
      rw [if_pos c] at q
      exact ⟨_, rfl, q⟩
    have g3 : k ≠ 23 := of_decide_eq_false c1
    have g4 : k ≠ 26 := of_decide_eq_false c2
    rw [if_neg (by omega)] at q at_
    refine ⟨_, rfl, _, rfl, _, _, _, _, rfl, rfl, SqL.of hn4, at_ 1 (by decide), _, _, rfl, rfl, .inr ⟨by decide, by decide⟩, _, _, rfl, rfl, ?_⟩
    refine ⟨_, rfl, rfl, _, rfl, ?_⟩
    rw [eq_low ⟨k, hk⟩]
    refine ite3 (fun e => ?_) (fun c1 => ?_)
    · have c : k = 10 := of_decide_eq_true e
      rw [if_pos c] at q
      exact ⟨_, rfl, _, _, rfl, rfl, _, rfl, _, _, _, _, rfl, rfl, SqL.of hn4, at_ 2 (by decide), _, _, rfl, rfl, q⟩
    rw [if_neg (of_decide_eq_false c1)] at q
    refine ⟨_, rfl, rfl, _, rfl, ?_⟩
    rw [kd_int b]
    refine ite3 (fun e => ?_) (fun e => ?_)
    · rw [if_pos e] at q
      exact ⟨_, rfl, _, _, rfl, rfl, _, rfl, _, _, _, _, rfl, rfl, SqL.of hn4, at_ 2 (by decide), .inl ⟨_, rfl, _, _, rfl, rfl, (by show (0 : Int) < 32768; decide), _, _, rfl, rfl, q⟩⟩
    · rw [if_neg (by rw [e]; exact Bool.false_ne_true)] at q
      exact ⟨_, rfl, _, rfl, _, _, _, _, rfl, rfl, SqL.of hn4, at_ 2 (by decide), _, _, rfl, rfl, q⟩
end

/-! ### the parts of a word -/
def partF (f : Nat) (w : Int) : Int := if fLo f < 0 ∧ fMod f / 2 ≤ w / fMul f % fMod f then w / fMul f % fMod f - fMod f else w / fMul f % fMod f
def flg (w : Int) : Bool := decide (w / 32768 % 2 = 1)
def partA (w : Int) (f : Nat) : Ar := if f = 8 then .s (flg w) (partF (kdS (flg w)) w) else .n (partF f w)
def arD : Ar → PyData
  | .n x => .int x
  | .s b x => .tuple [.str (fS (kdS b)), .int x]
def insD (k : Nat) (xs : List Ar) : PyData := .tuple (.str (nmS k) :: xs.map arD)
def badD : PyData := .tuple [.str "bad"]
def decD (w : Int) : PyData := if w / 67108864 < 29 ∧ (okS (fm (w / 67108864).toNat) ((fm (w / 67108864).toNat).map (partA w)) && decide (encV (w / 67108864).toNat ((fm (w / 67108864).toNat).map (partA w)) = w)) = true then insD (w / 67108864).toNat ((fm (w / 67108864).toNat).map (partA w)) else badD
theorem arv_dt {K : PySem.W.Frag} {H : Hp} {v : V} {x : Ar} (h : ArV K H v x) : DT K H v (arD x) := by
  cases h with
  | n x => exact .int x
  | s h => exact .tup h (.cons (.str _) (.cons (.int _) .nil))
theorem arvs_dt {K : PySem.W.Frag} {H : Hp} : ∀ {vs : List V} {xs : List Ar}, ArVs K H vs xs → DTs K H vs (xs.map arD)
  | _, _, .nil => .nil
  | _, _, .cons h r => .cons (arv_dt h) (arvs_dt r)
theorem ins_dt {K : PySem.W.Frag} {H : Hp} {ip : Addr} {k : Nat} {ws : List V} {xs : List Ar} (h : SqT K H ip (.str (nmS k) :: ws)) (r : ArVs K H ws xs) : DT K H (.ref ip) (insD k xs) := .tup h (.cons (.str _) (arvs_dt r))
theorem ins_ok {k : Nat} {xs : List Ar} (h : xs.length ≤ 3) : okD 2 (insD k xs) := by
  refine ⟨fun d hd => ?_, by simp; omega⟩
  rcases List.mem_cons.mp hd with rfl | hd
  · trivial
  · obtain ⟨x, _, rfl⟩ := List.mem_map.mp hd
    cases x with
    | n x => trivial
    | s b x =>
      refine ⟨fun d hd => ?_, by simp⟩
      rcases List.mem_cons.mp hd with rfl | hd
      · trivial
      · obtain rfl := List.mem_singleton.mp hd; trivial
theorem bad_ok : okD 2 badD := ⟨fun d hd => by obtain rfl := List.mem_singleton.mp hd; trivial, by decide⟩
theorem fm_len3 : ∀ k : _root_.Fin 29, (fm k.val).length ≤ 3 := by decide +kernel
theorem dec_ok (w : Int) : okD 2 (decD w) := by
  unfold decD
  split
  · rename_i h
    refine ins_ok ?_
    rw [List.length_map]
    by_cases c : 0 ≤ w / 67108864
    · exact fm_len3 ⟨(w / 67108864).toNat, by omega⟩
    · rw [show (w / 67108864).toNat = 0 by omega]; decide
  · exact bad_ok
theorem mask_only (f : Nat) (h : f < 8) (x : Int) : Builtin.bitAnd x (1 * 2 ^ (fMn f).toNat - 1) = x % fMod f := by
  match f, h with
  | 0, _ => exact mask5 x
  | 1, _ => exact mask5 x
  | 2, _ => exact mask15 x
  | 3, _ => exact mask15 x
  | 4, _ => exact mask15 x
  | 5, _ => exact mask21 x
  | 6, _ => exact mask26 x
  | 7, _ => exact mask26 x
theorem shr_f (f : Nat) (h : f < 8) (x : Int) : x / 2 ^ (fSh f).toNat = x / fMul f := by
  match f, h with
  | 0, _ => rfl
  | 1, _ => rfl
  | 2, _ => rfl
  | 3, _ => rfl
  | 4, _ => rfl
  | 5, _ => rfl
  | 6, _ => rfl
  | 7, _ => rfl
theorem half_f (f : Nat) (h : f < 8) : (1 : Int) * 2 ^ (fMn f - 1).toNat = fMod f / 2 ∧ (1 : Int) * 2 ^ (fMn f).toNat = fMod f ∧ 0 ≤ fMn f - 1 ∧ fMn f - 1 ≤ 1000000 := by
  match f, h with
  | 0, _ => decide
  | 1, _ => decide
  | 2, _ => decide
  | 3, _ => decide
  | 4, _ => decide
  | 5, _ => decide
  | 6, _ => decide
  | 7, _ => decide
theorem flag_bit (w : Int) (h : 0 ≤ w) : decide (V.int (Builtin.bitAnd w 32768) = V.int 0) = !flg w := by
  rw [PyProof.Rows.bitAnd_pp h (by decide)]
  have e : w.toNat &&& (32768 : Int).toNat = (w.toNat.testBit 15).toNat * 2 ^ 15 := by
    show w.toNat &&& 2 ^ 15 = _
    apply Nat.eq_of_testBit_eq
    intro i
    rw [Nat.testBit_and, Nat.testBit_two_pow]
    by_cases c : 15 = i
    · subst c
      cases w.toNat.testBit 15 <;> decide
    · rw [decide_eq_false c, Bool.and_false]
      cases w.toNat.testBit 15
      · simp
      · show _ = (1 * 2 ^ 15).testBit i
        rw [Nat.one_mul, Nat.testBit_two_pow, decide_eq_false c]
  rw [e, Nat.testBit_eq_decide_div_mod_eq]
  unfold flg
  by_cases c : w / 32768 % 2 = 1
  · rw [decide_eq_true (show w.toNat / 2 ^ 15 % 2 = 1 by omega), decide_eq_true c]
    decide
  · rw [decide_eq_false (show ¬ w.toNat / 2 ^ 15 % 2 = 1 by omega), decide_eq_false c]
    decide
def spPart (K : PySem.W.Frag) (n : Nat) : Sp := fun vs H Q _ => ∃ (f : Nat) (w : Int), f < 9 ∧ vs = [.str (fS f), .int w] ∧ 0 ≤ w ∧ (f < 8 ∨ n = 1) ∧ ∀ v H', Same H H' → ArV K H' v (partA w f) → Q v H'
def spDec (K : PySem.W.Frag) : Sp := fun vs H Q _ => ∃ w : Int, vs = [.int w] ∧ 0 ≤ w ∧ w < 4294967296 ∧ ∀ v H', Same H H' → DT K H' v (decD w) → Q v H'
theorem wt_parts (w : Int) : ∀ fs : List Nat, (∀ f ∈ fs, f < 9) → wtS fs (fs.map (partA w))
  | [], _ => trivial
  | f :: fs, h => by
    refine ⟨?_, wt_parts w fs fun g hg => h g (List.mem_cons_of_mem _ hg)⟩
    have := h f List.mem_cons_self
    unfold partA
    by_cases c : f = 8
    · rw [if_pos c]; exact c
    · rw [if_neg c]; show f < 8; omega
theorem arvs_app {K : PySem.W.Frag} {H : Hp} : ∀ {vs us : List V} {xs ys : List Ar}, ArVs K H vs xs → ArVs K H us ys → ArVs K H (vs ++ us) (xs ++ ys)
  | _, _, _, _, .nil, s => s
  | _, _, _, _, .cons h r, s => .cons h (arvs_app r s)
section
variable {P : Program} {w : World} {K : PySem.W.Frag} {mg : Str → Option Value} {base : Heap} {a : Ad}
theorem ok_part_aux (T : Txt w K mg a) (n k : Nat) (sp' : Sp) (G_part_of : FnOk P w K mg base CX0 k a.f_part_of a.d_part_of ["field", "word"] sp') (hG : n = 1 → ∀ vs H Q E, spPart K 0 vs H Q E → sp' vs H Q E) :
    FnOk P w K mg base CX0 (k + 1) a.f_part_of a.d_part_of ["field", "word"] (spPart K n) := by
  refine T.F__part_of.ok sc_part_of (fun vs H Q E h => ?_) (fun cdv A outer s H vs Q E hr h => ?_)
  · obtain ⟨_, _, _, rfl, _⟩ := h; rfl
  · obtain ⟨f, x, hf, rfl, x0, hn, q⟩ := h
    refine ⟨_, (pss_cons (ps_if (pt_cmpR op_eq (pv 0) pe_str (nomark _)) (pss_cons (ps_set (i := 2) sc_part_of.nd rfl (Or.inl rfl) (pe_ifExp (pt_cmpR op_eq (pe_op op_and (pv 1) (pe_glob (v := .int (32768)) rfl T.g_FLAG ⟨_, rfl⟩)) pe_int (nomark _)) pe_str pe_str))
      (pss_one (ps_ret (pe_tup (pa_cons (pv 2) (pa_cons (pe_call G_part_of hr rfl T.g__part_of T.k__part_of T.bd__part_of .nil pass0 (pa_cons (pv 2) (pa_cons (pv 1) pa_nil))) pa_nil)))))) pss_nil)
      (pss_cons (ps_asg (pe_ix ix_kdict (pe_glob (v := .ref a.c_FIELDS) rfl T.g_FIELDS rfl) (pv 0) (fun _ _ => rfl)) (pg_tup rfl (pgs_cons (pg_name (i := 3) sc_part_of.nd rfl (Or.inl rfl)) (pgs_cons (pg_name (i := 4) sc_part_of.nd rfl (Or.inl rfl)) (pgs_cons (pg_name (i := 5) sc_part_of.nd rfl (Or.inl rfl)) (pgs_cons (pg_name (i := 6) sc_part_of.nd rfl (Or.inl rfl)) pgs_nil))))))
      (pss_cons (ps_set (i := 7) sc_part_of.nd rfl (Or.inl rfl) (pe_op op_and (pe_op op_shr (pv 1) (pv 3)) (pe_op op_sub (pe_op op_shl pe_int (pv 4)) pe_int)))
      (C8.pss_cut (ps_if (PW.pt (pw_and (pt_cmpR op_lt (pv 5) pe_int (nomark _)) (pw_and1 (pt_cmpR op_ge (pv 7) (pe_op op_shl pe_int (pe_op op_sub (pv 4) pe_int)) (nomark _))))) (pss_one (ps_aug (i := 7) sc_part_of.nd rfl (Or.inl rfl) (pe_op op_shl pe_int (pv 4)) ip_sub)) pss_nil)
      (pss_one (ps_ret (pv 7))))))), ?_⟩
    refine ⟨_, rfl, rfl, _, rfl, ?_⟩
    rw [fs_src ⟨f, hf⟩]
    refine ite3 (fun e => ?_) (fun e => ?_)
    · obtain rfl : f = 8 := of_decide_eq_true e
      have n1 : n = 1 := by omega
      have go : ∀ (b : Bool), flg x = b → ∀ (D : Ends), D.rt = Q → tRet (tTup (tCons (tVar 2) (tCons (tCall sp' [] E0 (tCons (tVar 2) (tCons (tVar 1) tNil))) tNil))) D [some (.str (fS 8)), some (.int x), some (.str (fS (kdS b))), none, none, none, none, none] H := fun b hb D eD => by
        refine ⟨_, rfl, _, rfl, _, rfl, hG n1 _ _ _ _ ⟨kdS b, x, by unfold kdS; split <;> decide, rfl, x0, .inl (by unfold kdS; split <;> decide), fun v H1 s1 hv => ⟨(by show 2 ≤ sizeLine; decide), fun p np => ?_⟩⟩⟩
        have ep : partA x (kdS b) = .n (partF (kdS b) x) := by unfold partA; rw [if_neg (by unfold kdS; split <;> decide)]
        rw [ep] at hv
        cases hv
        rw [eD]
        refine q _ _ (sN s1 np) ?_
        have e8 : partA x 8 = .s b (partF (kdS b) x) := by unfold partA; rw [if_pos rfl, hb]
        rw [e8]
        exact .s (SqT.of upd_same)
      refine ⟨_, rfl, _, _, rfl, rfl, rfl, _, rfl, ?_⟩
      rw [flag_bit x x0]
      refine ite3 (fun e2 => ?_) (fun e2 => ?_)
      · exact go false (by simpa using e2) { nx := fun _ H' => Q .non H', rt := Q } rfl
      · exact go true (by simpa using e2) { nx := fun _ H' => Q .non H', rt := Q } rfl
    have h8 : f < 8 := by have := of_decide_eq_false e; simp only at this; omega
    obtain ⟨p, hk, hp⟩ := field_at T f h8
    obtain ⟨s0, s1, m0, m1⟩ := fsh_ok ⟨f, h8⟩
    obtain ⟨hh1, hh2, hh3, hh4⟩ := half_f f h8
    refine ⟨_, rfl, _, _, _, rfl, rfl, hk, p, _, rfl, hp _, rfl, _, _, rfl, _, _, rfl, _, _, rfl, _, _, rfl, rfl, ?_⟩
    refine ⟨_, rfl, _, rfl, _, _, rfl, rfl, s0, _, rfl, _, _, rfl, rfl, ⟨m0, m1, by decide⟩, _, _, rfl, rfl, _, _, rfl, rfl, ?_⟩
    have en : Builtin.bitAnd (x / 2 ^ (fSh f).toNat) (1 * 2 ^ (fMn f).toNat - 1) = x / fMul f % fMod f := by rw [mask_only f h8, shr_f f h8]
    have ep : partA x f = .n (partF f x) := by unfold partA; rw [if_neg (by omega)]
    rw [ep] at q
    have q := q _ _ (Same.refl H) (.n _)
    refine ⟨fun σ H' => H' = H ∧ ∃ u1 u2 u3 u4 u5, σ = [some (.str (fS f)), some (.int x), u1, u2, u3, u4, u5, some (.int (partF f x))], ?_, ?_⟩
    · unfold partF
      refine ⟨_, rfl, _, _, rfl, rfl, _, rfl, ite3 (fun e1 => ?_) (fun e1 => ?_)⟩
      · have c1 : fLo f < 0 := of_decide_eq_true e1
        refine ⟨_, rfl, _, rfl, _, _, rfl, rfl, _, _, rfl, rfl, ⟨hh3, hh4, by decide⟩, _, _, rfl, rfl, _, rfl, ite3 (fun e2 => ?_) (fun e2 => ?_)⟩
        · have c2 : 1 * 2 ^ (fMn f - 1).toNat ≤ Builtin.bitAnd (x / 2 ^ (fSh f).toNat) (1 * 2 ^ (fMn f).toNat - 1) := of_decide_eq_true e2
          rw [hh1, en] at c2
          refine ⟨_, rfl, _, rfl, _, _, rfl, rfl, ⟨m0, m1, by decide⟩, _, _, rfl, rfl, rfl, none, some (.int (fSh f)), some (.int (fMn f)), some (.int (fLo f)), some (.int (fHi f)), ?_⟩
          rw [if_pos ⟨c1, c2⟩, ← en, ← hh2]
          rfl
        · have c2 : ¬ 1 * 2 ^ (fMn f - 1).toNat ≤ Builtin.bitAnd (x / 2 ^ (fSh f).toNat) (1 * 2 ^ (fMn f).toNat - 1) := of_decide_eq_false e2
          rw [hh1, en] at c2
          refine ⟨rfl, none, some (.int (fSh f)), some (.int (fMn f)), some (.int (fLo f)), some (.int (fHi f)), ?_⟩
          rw [if_neg (fun z => c2 z.2), ← en]
          rfl
      · refine iteF ⟨rfl, none, some (.int (fSh f)), some (.int (fMn f)), some (.int (fLo f)), some (.int (fHi f)), ?_⟩
        rw [if_neg (fun z => of_decide_eq_false e1 z.1), ← en]
        rfl
    rintro σ H' ⟨rfl, u1, u2, u3, u4, u5, rfl⟩
    exact ⟨_, rfl, q⟩
theorem ok_part_of (T : Txt w K mg a) : FnOk P w K mg base CX0 2 a.f_part_of a.d_part_of ["field", "word"] (spPart K 1) :=
  ok_part_aux T 1 1 _ (ok_part_aux T 0 0 spNever ⟨fun _ _ _ _ h => h.elim, fun _ _ _ _ _ _ _ _ _ _ _ _ _ h => h.elim⟩ fun h => nomatch h) fun _ vs H Q E h => h
end

section
variable {P : Program} {w : World} {K : PySem.W.Frag} {mg : Str → Option Value} {base : Heap} {a : Ad}
theorem arvs_part {H : Hp} {x : Int} : ∀ {us : List V} {fs : List Nat}, ArVs K H us (fs.map (partA x)) → us.length = fs.length := fun h => by rw [h.len, List.length_map]
theorem ArVs_kt {K : PySem.W.Frag} {H H' : Hp} (s : KT K H H') : ∀ {vs : List V} {xs : List Ar}, ArVs K H vs xs → ArVs K H' vs xs
  | _, _, .nil => .nil
  | _, _, .cons (.n x) r => .cons (.n x) (ArVs_kt s r)
  | _, _, .cons (.s h) r => .cons (.s (s _ _ h)) (ArVs_kt s r)
theorem ok_decode (T : Txt w K mg a) : FnOk P w K mg base CX0 4 a.f_decode a.d_decode ["word"] (spDec K) := by
  have G_part_of : FnOk P w K mg base CX0 2 _ _ _ _ := ok_part_of T
  have G_encode : FnOk P w K mg base (L2.CX P w) 3 _ _ _ _ := ok_encode T
  refine T.F_decode.ok sc_decode (fun vs H Q E h => ?_) (fun cdv A outer s H vs Q E hr h => ?_)
  · obtain ⟨_, rfl, _⟩ := h; rfl
  · obtain ⟨x, rfl, x0, x1, q⟩ := h
    refine ⟨_, (C8.pss_cut (ps_set (i := 1) sc_decode.nd rfl (Or.inl rfl) (pe_op op_shr (pv 0) (pe_glob (v := .int (26)) rfl T.g_NAME_SHIFT ⟨_, rfl⟩)))
      (pss_cons (ps_if (pt_cmpR op_ge (pv 1) (pe_callB call_len_seq (by rfl) T.b_len (by decide +kernel) (pa_cons (pe_glob (v := .ref a.c_NAMES) rfl T.g_NAMES rfl) pa_nil)) (nomark _)) (pss_one (ps_ret (pe_glob (v := .ref a.c_BAD) rfl T.g_BAD rfl))) pss_nil)
      (pss_cons (ps_set (i := 2) sc_decode.nd rfl (Or.inl rfl) (pe_ix ix_tup (pe_glob (v := .ref a.c_NAMES) rfl T.g_NAMES rfl) (pv 1) (fun _ _ => rfl)))
      (C8.pss_cut (ps_set (i := 3) sc_decode.nd rfl (Or.inl rfl) (pe_tup (pa_cons (pv 2) (StX.pa_star (pe_lc (own := [("field", 4)]) (g := gName 4) rfl sc_decode.nd (pi_tup (pe_ix ix_kdict (pe_glob (v := .ref a.c_FORMS) rfl T.g_FORMS rfl) (pv 2) (fun _ _ => rfl))) (blkOk_by (own := [("field", 4)]) (N := ["word", "number", "name", "instruction", "field", "is_same"]) (sc := defScope s_decode) (by decide +kernel)) (fun _ _ _ _ _ => pg_name (i := 4) sc_decode.nd rfl (Or.inl rfl)) (fun _ _ _ _ _ => pts_nil) (fun _ _ _ _ _ => (pe_call G_part_of (hr.mono (by decide)) rfl T.g__part_of T.k__part_of T.bd__part_of .nil pass0 (pa_cons (pv 4) (pa_cons (pv 0) pa_nil))))) pa_nil))))
      (C8.pss_cut (ps_try_only rfl rfl ⟨rfl, by decide, Or.inl T.g_ImageError⟩ takes0 (fun W pn xe tk _ => (pss_one (ps_set (i := 5) sc_decode.nd rfl (Or.inl rfl) (pe_cmpR op_eq (pe_callS G_encode (hr.mono (by decide)) rfl T.g_encode T.k_encode T.bd_encode (fun σ => passAt tk σ) (pa_cons (pv 3) pa_nil)) (pv 0) (nomark _))))) (fun av oe cls dd pn hz hf => (pss_one (ps_set (i := 5) sc_decode.nd rfl (Or.inl rfl) pe_bl))))
      (pss_one (ps_ret (pe_ifExp (pt_val (pv 5)) (pv 3) (pe_glob (v := .ref a.c_BAD) rfl T.g_BAD rfl))))))))), ?_⟩
    have e26 : x / 2 ^ (26 : Int).toNat = x / 67108864 := rfl
    refine ⟨fun σ H' => H = H' ∧ σ = [some (.int x), some (.int (x / 67108864)), none, none, none, none], ⟨_, rfl, _, _, rfl, rfl, (show (0 : Int) ≤ 26 by decide), rfl, rfl⟩, ?_⟩
    rintro σ H' ⟨e0, rfl⟩
    subst e0
    refine ⟨_, rfl, _, _, rfl, .inr (T.q_NAMES _), _, _, rfl, rfl, _, rfl, ite3 (fun e => ?_) (fun e => ?_)⟩
    · have e : (29 : Int) ≤ x / 67108864 := of_decide_eq_true e
      refine q _ _ (Same.refl _) ?_
      unfold decD
      rw [if_neg (fun z => by omega)]
      exact .tup (T.q_BAD _) (.cons (.str _) .nil)
    have e : ¬ (29 : Int) ≤ x / 67108864 := of_decide_eq_false e
    obtain ⟨k, hk⟩ : ∃ k : Nat, x / 67108864 = (k : Int) := ⟨(x / 67108864).toNat, by omega⟩
    have hk29 : k < 29 := by omega
    obtain ⟨fp, kf, hf⟩ := form_at T k hk29
    rw [hk]
    have hNM : ∀ H, SqT K H a.c_NAMES (nms.map V.str) := T.q_NAMES
    refine ⟨_, rfl, _, _, _, _, rfl, rfl, hNM _, atI_nat (nms_find k hk29).1, ?_⟩
    refine ⟨fun σ H' => ∃ ip us, Same H H' ∧ SqT K H' ip (V.str (nmS k) :: us) ∧ ArVs K H' us ((fm k).map (partA x)) ∧ σ = [some (.int x), some (.int (k : Int)), some (.str (nmS k)), some (.ref ip), none, none], ?_, ?_⟩
    refine ⟨_, rfl, _, rfl, _, _, _, rfl, rfl, kf, fp, rfl, ⟨_, hf _⟩, fun D nD => ?_⟩
    refine lc_tup (K := K) (a := fp) (xs := (fm k).map fun f => V.str (fS f)) (fun i H' => Same H H' ∧ ∃ us, H' D = some (.lst us) ∧ ArVs K H' us (((fm k).take i).map (partA x))) ⟨sN (Same.refl H) nD, [], upd_same, .nil⟩ (fun i H' _ h => hf _) ?_ ?_
    · rintro i v H1 hv ⟨ss, us, hD, hus⟩
      rw [List.getElem?_map] at hv
      obtain ⟨f, hfi, rfl⟩ : ∃ f, (fm k)[i]? = some f ∧ v = V.str (fS f) := by
        cases e : (fm k)[i]? with
        | none => rw [e] at hv; cases hv
        | some c => rw [e] at hv; exact ⟨c, rfl, (Option.some.inj hv).symm⟩
      refine ⟨rfl, _, rfl, _, rfl, f, x, fm_lt ⟨k, hk29⟩ f (List.mem_of_getElem? hfi), rfl, x0, .inr rfl, fun z H2 s2 hz => ⟨us, s2 _ _ hD, ?_, ?_⟩⟩
      · have := arvs_part hus
        have h3 := fm_len3 ⟨k, hk29⟩
        simp only [List.length_take] at this h3
        exact sz (by omega)
      · refine ⟨fun b o e => ?_, us ++ [z], upd_same, ?_⟩
        · rw [upd_ne (ne_of_none e nD)]
          exact s2 _ _ (ss _ _ e)
        · rw [List.take_succ, hfi, List.map_append]
          have kt := KT.put (K := K) (s2 _ _ hD) (o := .lst (us ++ [z]))
          exact arvs_app (ArVs_kt ((KT.same s2).tr kt) hus) (ArVs_kt kt (.cons hz .nil))
    · rintro H1 ⟨ss, us, hD, hus⟩
      rw [List.length_map, List.take_of_length_le (Nat.le_refl _)] at hus
      have hl := arvs_part hus
      have h3 : (fm k).length ≤ 3 := fm_len3 ⟨k, hk29⟩
      refine ⟨_, us, rfl, .inr (SqL.of hD), ⟨Nat.le_of_lt (sz (n := (V.str (nmS k) :: (us ++ [])).length) (by simp; omega)), fun ip nip => ?_⟩⟩
      have kt := KT.new (K := K) nip (o := .tup (V.str (nmS k) :: (us ++ [])))
      exact ⟨ip, us, sN ss nip, SqT.of (by rw [upd_same, List.append_nil]), ArVs_kt kt hus, rfl⟩
    rintro σ H2 ⟨ip, us, s2, hI, hus, rfl⟩
    have nb : (x / 67108864).toNat = k := by omega
    have done : ∀ (b : Bool) (H3 : Hp), Same H2 H3 → (okS (fm k) ((fm k).map (partA x)) && decide (encV k ((fm k).map (partA x)) = x)) = b → Q (if b = true then .ref ip else .ref a.c_BAD) H3 := fun b H3 s3 e => by
      refine q _ _ (fun z o e => s3 _ _ (s2 _ _ e)) ?_
      have hd : decD x = if b = true then insD k ((fm k).map (partA x)) else badD := by
        unfold decD
        rw [nb]
        by_cases c : b = true
        · rw [if_pos c, if_pos ⟨by omega, e.trans c⟩]
        · rw [if_neg c, if_neg (fun z => c (e.symm.trans z.2))]
      rw [hd]
      cases b with
      | true => exact ins_dt (seqT s3 hI) (hus.same s3)
      | false => exact .tup (T.q_BAD _) (.cons (.str _) .nil)
    refine ⟨fun σ H' => ∃ b, Same H2 H' ∧ (okS (fm k) ((fm k).map (partA x)) && decide (encV k ((fm k).map (partA x)) = x)) = b ∧ σ = [some (.int x), some (.int (k : Int)), some (.str (nmS k)), some (.ref ip), none, some (.bl b)], ?_, ?_⟩
    · refine ⟨_, rfl, ip, k, us, _, hk29, rfl, hI, hus, wt_parts x (fm k) (fun f hf => fm_lt ⟨k, hk29⟩ f hf), fun H3 s3 => ⟨fun ok => ?_, fun bad => ?_⟩⟩
      · refine ⟨_, rfl, rfl, _, s3, ?_, rfl⟩
        rw [ok, Bool.true_and]
        by_cases c : encV k ((fm k).map (partA x)) = x
        · rw [decide_eq_true c, decide_eq_true (by rw [c])]
        · rw [decide_eq_false c, decide_eq_false (fun z => c (by injection z))]
      · refine ⟨true, T.e_ImageError_ImageError, fun _ av nav => ⟨false, s3, ?_, rfl⟩, fun z => nomatch z⟩
        rw [bad]; rfl
    · rintro σ H3 ⟨b, s3, e, rfl⟩
      have dn := done b H3 s3 e
      refine ⟨_, rfl, _, rfl, ?_⟩
      cases b with
      | true => exact ⟨_, rfl, dn⟩
      | false => exact dn
end

def spDecd (K : PySem.W.Frag) : Sp := fun vs H Q _ => ∃ w : Int, vs = [.int w] ∧ 0 ≤ w ∧ w < 4294967296 ∧ ∀ v H', Same H H' → DT K H' v (decD w) → Q v H'
theorem partF_0 (w : Int) : partF 0 w = w / 2097152 % 32 := by
  show (if (0 : Int) < 0 ∧ 32 / 2 ≤ w / 2097152 % 32 then w / 2097152 % 32 - 32 else w / 2097152 % 32) = _
  split <;> omega
theorem partF_1 (w : Int) : partF 1 w = w / 65536 % 32 := by
  show (if (0 : Int) < 0 ∧ 32 / 2 ≤ w / 65536 % 32 then w / 65536 % 32 - 32 else w / 65536 % 32) = _
  split <;> omega
theorem partF_2 (w : Int) : partF 2 w = w % 32768 := by
  show (if (0 : Int) < 0 ∧ 32768 / 2 ≤ w / 1 % 32768 then w / 1 % 32768 - 32768 else w / 1 % 32768) = _
  split <;> omega
theorem partF_3 (w : Int) : partF 3 w = (w % 32768 + 16384) % 32768 - 16384 := by
  show (if (-16384 : Int) < 0 ∧ 32768 / 2 ≤ w / 1 % 32768 then w / 1 % 32768 - 32768 else w / 1 % 32768) = _
  split <;> omega
theorem partF_4 (w : Int) : partF 4 w = w % 32768 := by
  show (if (0 : Int) < 0 ∧ 32768 / 2 ≤ w / 1 % 32768 then w / 1 % 32768 - 32768 else w / 1 % 32768) = _
  split <;> omega
theorem partF_5 (w : Int) : partF 5 w = (w % 67108864 + 1048576) % 2097152 - 1048576 := by
  show (if (-1048576 : Int) < 0 ∧ 2097152 / 2 ≤ w / 1 % 2097152 then w / 1 % 2097152 - 2097152 else w / 1 % 2097152) = _
  split <;> omega
theorem partF_6 (w : Int) : partF 6 w = (w % 67108864 + 33554432) % 67108864 - 33554432 := by
  show (if (-33554432 : Int) < 0 ∧ 67108864 / 2 ≤ w / 1 % 67108864 then w / 1 % 67108864 - 67108864 else w / 1 % 67108864) = _
  split <;> omega
theorem partF_7 (w : Int) : partF 7 w = w % 67108864 := by
  show (if (0 : Int) < 0 ∧ 67108864 / 2 ≤ w / 1 % 67108864 then w / 1 % 67108864 - 67108864 else w / 1 % 67108864) = _
  split <;> omega
def ns1 (k : Nat) (b : Bool) (x : Int) : List Int := [partF 0 x, partF 1 x, if k = 10 then partF 4 x else partF (kdS b) x]
def ns2 (k : Nat) (b : Bool) (x : Int) : List Int := if k = 9 ∨ k = 14 then [partF 0 x, partF 5 x] else ns1 k b x
def ns3 (k : Nat) (b : Bool) (x : Int) : List Int := if k = 13 then [partF 6 x] else ns2 k b x
def ns4 (k : Nat) (b : Bool) (x : Int) : List Int := if k = 15 ∨ k = 19 then [partF 7 x] else ns3 k b x
def ns5 (k : Nat) (b : Bool) (x : Int) : List Int := (ns4 k b x).drop ((ns4 k b x).length - (fm k).length)
def nsE (k : Nat) (b : Bool) (x : Int) : List Int := (rgs k b).map fun f => partF f x
theorem ns_end (b : Bool) (x : Int) : ∀ k, k < 29 → (if k = 23 ∨ k = 26 then [partF 0 x] else ns5 k b x) = nsE k b x
  | 0, _ => rfl
  | 1, _ => rfl
  | 2, _ => rfl
  | 3, _ => rfl
  | 4, _ => rfl
  | 5, _ => rfl
  | 6, _ => rfl
  | 7, _ => rfl
  | 8, _ => rfl
  | 9, _ => rfl
  | 10, _ => rfl
  | 11, _ => rfl
  | 12, _ => rfl
  | 13, _ => rfl
  | 14, _ => rfl
  | 15, _ => rfl
  | 16, _ => rfl
  | 17, _ => rfl
  | 18, _ => rfl
  | 19, _ => rfl
  | 20, _ => rfl
  | 21, _ => rfl
  | 22, _ => rfl
  | 23, _ => rfl
  | 24, _ => rfl
  | 25, _ => rfl
  | 26, _ => rfl
  | 27, _ => rfl
  | 28, _ => rfl
  | n + 29, h => absurd h (by omega)
theorem ns_len (b : Bool) (x : Int) (k : Nat) (hk : k < 29) : (fm k).length ≤ (ns4 k b x).length ∧ (ns4 k b x).length ≤ 3 := by
  have h1 : ∀ k : _root_.Fin 29, (fm k.val).length ≤ (if k.val = 15 ∨ k.val = 19 ∨ k.val = 13 then 1 else if k.val = 9 ∨ k.val = 14 then 2 else 3) := by decide +kernel
  have h1 := h1 ⟨k, hk⟩
  dsimp only at h1
  unfold ns4 ns3 ns2 ns1
  by_cases c : k = 15 ∨ k = 19
  · rw [if_pos (by omega)] at h1; rw [if_pos c]; simp; omega
  rw [if_neg c]
  by_cases c2 : k = 13
  · rw [if_pos (by omega)] at h1; rw [if_pos c2]; simp; omega
  rw [if_neg c2]
  rw [if_neg (by omega)] at h1
  by_cases c3 : k = 9 ∨ k = 14
  · rw [if_pos c3] at h1 ⊢; simp; omega
  · rw [if_neg c3] at h1 ⊢; simp; omega
theorem arl_part (x : Int) : ∀ fs : List Nat, arL (flg x) fs ((fs.map fun f => if f = 8 then kdS (flg x) else f).map fun f => partF f x) = fs.map (partA x)
  | [] => rfl
  | f :: fs => by
    show (if f = 8 then Ar.s (flg x) (partF (if f = 8 then kdS (flg x) else f) x) else Ar.n (partF (if f = 8 then kdS (flg x) else f) x)) :: arL (flg x) fs ((fs.map fun f => if f = 8 then kdS (flg x) else f).map fun f => partF f x) = partA x f :: fs.map (partA x)
    rw [arl_part x fs]
    unfold partA
    by_cases c : f = 8
    · rw [if_pos c, if_pos c, if_pos c]
    · rw [if_neg c, if_neg c, if_neg c]
theorem kd_at (x : Int) : atI [V.str "reg", V.str "int"] (x % 67108864 / 32768 % 2) = some (V.str (fS (kdS (flg x)))) := by
  unfold flg
  by_cases c : x / 32768 % 2 = 1
  · rw [decide_eq_true c, show x % 67108864 / 32768 % 2 = ((1 : Nat) : Int) by omega]
    exact atI_nat rfl
  · rw [decide_eq_false c, show x % 67108864 / 32768 % 2 = ((0 : Nat) : Int) by omega]
    exact atI_nat rfl
theorem n_eq (x : Int) (b c : Bool) (e : c = b) : (x % 67108864 % 32768 + 16384 * (if c = true then 1 else 0)) % 32768 - 16384 * (if c = true then 1 else 0) = partF (kdS b) x := by
  subst e
  cases c with
  | true => rw [show kdS true = 3 from rfl, partF_3]; simp <;> omega
  | false => rw [show kdS false = 2 from rfl, partF_2]; simp <;> omega

section
variable {P : Program} {w : World} {K : PySem.W.Frag} {mg : Str → Option Value} {base : Heap} {a : Ad}
theorem bad_dt {K : PySem.W.Frag} {H : Hp} {p : Addr} (h : SqT K H p [.str "bad"]) : DT K H (.ref p) badD := .tup h (.cons (.str _) .nil)
theorem rg_new {K : PySem.W.Frag} {H : Hp} {p rp : Addr} {o : HO} {fs : List Nat} (n : H p = none) (h : Rg K H rp fs) : Rg K (upd H p o) rp fs := by
  obtain ⟨ts, t1, t2, t3⟩ := h
  refine ⟨ts, sN (Same.refl _) n _ _ t1, t2, fun i f e => ?_⟩
  obtain ⟨z, z1, z2⟩ := t3 i f e
  exact ⟨z, z1, KT.new n _ _ z2⟩
def okL (fs : List Nat) (ns : List Int) : Prop := ∀ (j f : Nat) (x : Int), fs[j]? = some f → ns[j]? = some x → okF f x = true
theorem okN_of {b : Bool} : ∀ {fs : List Nat} {ns : List Int}, okL (fs.map fun f => if f = 8 then kdS b else f) ns → okN b fs ns = true
  | [], _, _ => rfl
  | _ :: _, [], _ => rfl
  | f :: fs, n :: ns, h => by
    show cond (okF (if f = 8 then kdS b else f) n) (okN b fs ns) false = true
    rw [h 0 (if f = 8 then kdS b else f) n rfl rfl]
    exact okN_of fun j g x e1 e2 => h (j + 1) g x (by simpa using e1) (by simpa using e2)
theorem okN_bad {b : Bool} {f : Nat} {y : Int} (c : okF f y = false) : ∀ {fs : List Nat} {ns : List Int} {i : Nat}, (fs.map fun f => if f = 8 then kdS b else f)[i]? = some f → ns[i]? = some y → okN b fs ns = false
  | [], _, _, e, _ => by simp at e
  | _ :: _, [], _, _, e => by simp at e
  | g :: fs, n :: ns, 0, e1, e2 => by
    simp at e1 e2
    show cond (okF (if g = 8 then kdS b else g) n) (okN b fs ns) false = false
    rw [e1, e2, c]; rfl
  | g :: fs, n :: ns, i + 1, e1, e2 => by
    show cond (okF (if g = 8 then kdS b else g) n) (okN b fs ns) false = false
    rw [okN_bad (fs := fs) (ns := ns) (i := i) c (by simpa using e1) (by simpa using e2)]
    cases okF (if g = 8 then kdS b else g) n <;> rfl
theorem cd (y : Int) : CDivW y 67108864 ∧ CDivW y 32768 ∧ CDivW y 2097152 ∧ CDivW y 65536 := ⟨⟨by decide, by decide +kernel⟩, ⟨by decide, by decide +kernel⟩, ⟨by decide, by decide +kernel⟩, ⟨by decide, by decide +kernel⟩⟩
theorem ok_law_decoded (T : Txt w K mg a) : FnOk P w K mg base CX0 3 a.f_law_decoded a.d_law_decoded ["word"] (spDecd K) := by
  have G_law_names : FnOk P w K mg base CX0 1 _ _ _ _ := ok_law_names T
  have G_law_ranges : FnOk P w K mg base CX0 1 _ _ _ _ := ok_law_ranges T
  have G_law_instruction : FnOk P w K mg base CX0 1 _ _ _ _ := ok_law_instruction T
  have G_law_encoded : FnOk P w K mg base CX0 2 _ _ _ _ := ok_law_encoded T
  refine T.F__law_decoded.ok sc_law_decoded (fun vs H Q E h => ?_) (fun cdv A outer s H vs Q E hr h => ?_)
  · obtain ⟨_, rfl, _⟩ := h; rfl
  · obtain ⟨x, rfl, x0, x1, q⟩ := h
    refine ⟨_, (pss_cons (ps_if (pt_cmpR op_gt (pe_op op_fdivW (pv 0) pe_int) pe_int (nomark _)) (pss_one (ps_ret (pe_tup (pa_cons pe_str pa_nil)))) pss_nil)
      (C8.pss_cut (ps_set (i := 1) sc_law_decoded.nd rfl (Or.inl rfl) (pe_ix ix_list (pe_call0 G_law_names (hr.mono (by decide)) rfl T.g__law_names T.k__law_names T.bd__law_names .nil pass0) (pe_op op_fdivW (pv 0) pe_int) (fun _ _ => rfl)))
      (pss_cons (ps_set (i := 2) sc_law_decoded.nd rfl (Or.inl rfl) (pe_op op_mod (pe_callTy call_int1 (by rfl) T.b_int (by decide +kernel) (pa_cons (pv 0) pa_nil)) pe_int))
      (C8.pss_cut (ps_set (i := 3) sc_law_decoded.nd rfl (Or.inl rfl) (pe_ix ix_list (pe_lst (pa_cons pe_str (pa_cons pe_str pa_nil))) (pe_op op_mod (pe_op op_fdivW (pv 2) pe_int) pe_int) (fun _ _ => rfl)))
      (C8.pss_cut (ps_set (i := 4) sc_law_decoded.nd rfl (Or.inl rfl) (pe_op op_mod (pe_callTy call_int1 (by rfl) T.b_int (by decide +kernel) (pa_cons (pv 2) pa_nil)) pe_int))
      (C8.pss_cut (ps_set (i := 5) sc_law_decoded.nd rfl (Or.inl rfl) (pe_op op_sub (pe_op op_mod (pe_callTy call_int1 (by rfl) T.b_int (by decide +kernel) (pa_cons (pe_op op_add (pv 4) (pe_op op_mul pe_int (pe_callTy call_int1 (by rfl) T.b_int (by decide +kernel) (pa_cons (pe_cmpR op_eq (pv 3) pe_str (nomark _)) pa_nil)))) pa_nil)) pe_int) (pe_op op_mul pe_int (pe_callTy call_int1 (by rfl) T.b_int (by decide +kernel) (pa_cons (pe_cmpR op_eq (pv 3) pe_str (nomark _)) pa_nil)))))
      (C8.pss_cut (ps_if (pt_cmpR op_eq (pv 1) pe_str (nomark _)) (pss_one (ps_set (i := 5) sc_law_decoded.nd rfl (Or.inl rfl) (pv 4))) pss_nil)
      (C8.pss_cut (ps_set (i := 6) sc_law_decoded.nd rfl (Or.inl rfl) (pe_lst (pa_cons (pe_op op_fdivW (pv 2) pe_int) (pa_cons (pe_op op_mod (pe_op op_fdivW (pv 2) pe_int) pe_int) (pa_cons (pv 5) pa_nil)))))
      (C8.pss_cut (ps_if (PW.pt (pw_or (pt_cmpR op_eq (pv 1) pe_str (nomark _)) (pw_or1 (pt_cmpR op_eq (pv 1) pe_str (nomark _))))) (pss_one (ps_set (i := 6) sc_law_decoded.nd rfl (Or.inl rfl) (pe_lst (pa_cons (pe_ix ix_list (pv 6) pe_int (fun _ _ => rfl)) (pa_cons (pe_op op_sub (pe_op op_mod (pe_callTy call_int1 (by rfl) T.b_int (by decide +kernel) (pa_cons (pe_op op_add (pv 2) pe_int) pa_nil)) pe_int) pe_int) pa_nil))))) pss_nil)
      (C8.pss_cut (ps_if (pt_cmpR op_eq (pv 1) pe_str (nomark _)) (pss_one (ps_set (i := 6) sc_law_decoded.nd rfl (Or.inl rfl) (pe_lst (pa_cons (pe_op op_sub (pe_op op_mod (pe_callTy call_int1 (by rfl) T.b_int (by decide +kernel) (pa_cons (pe_op op_add (pv 2) pe_int) pa_nil)) pe_int) pe_int) pa_nil)))) pss_nil)
      (C8.pss_cut (ps_if (PW.pt (pw_or (pt_cmpR op_eq (pv 1) pe_str (nomark _)) (pw_or1 (pt_cmpR op_eq (pv 1) pe_str (nomark _))))) (pss_one (ps_set (i := 6) sc_law_decoded.nd rfl (Or.inl rfl) (pe_lst (pa_cons (pv 2) pa_nil)))) pss_nil)
      (C8.pss_cut (ps_set (i := 7) sc_law_decoded.nd rfl (Or.inl rfl) (pe_call G_law_ranges (hr.mono (by decide)) rfl T.g__law_ranges T.k__law_ranges T.bd__law_ranges .nil pass0 (pa_cons (pv 1) (pa_cons (pv 3) pa_nil))))
      (C8.pss_cut (ps_set (i := 6) sc_law_decoded.nd rfl (Or.inl rfl) (pe_slice sl_list (pv 6) (po_some (pe_op op_sub (pe_callB call_len_seq (by rfl) T.b_len (by decide +kernel) (pa_cons (pv 6) pa_nil)) (pe_callB call_len_seq (by rfl) T.b_len (by decide +kernel) (pa_cons (pv 7) pa_nil)))) po_none))
      (C8.pss_cut (ps_if (PW.pt (pw_or (pt_cmpR op_eq (pv 1) pe_str (nomark _)) (pw_or1 (pt_cmpR op_eq (pv 1) pe_str (nomark _))))) (pss_one (ps_set (i := 6) sc_law_decoded.nd rfl (Or.inl rfl) (pe_lst (pa_cons (pe_op op_fdivW (pv 2) pe_int) pa_nil)))) pss_nil)
      (pss_cons (ps_for PassesOwn.never rfl (pi_range1 rfl T.b_range (pa_cons (pe_callB call_len_seq (by rfl) T.b_len (by decide +kernel) (pa_cons (pv 7) pa_nil)) pa_nil)) (pg_name (i := 8) sc_law_decoded.nd rfl (Or.inl rfl)) (pss_one (ps_if (PW.pt (pw_or (pt_cmpR op_lt (pe_ix ix_list (pv 6) (pv 8) (fun _ _ => rfl)) (pe_ix ix_tup (pe_ix ix_list (pv 7) (pv 8) (fun _ _ => rfl)) pe_int (fun _ _ => rfl)) (nomark _)) (pw_or1 (pt_cmpR op_gt (pe_ix ix_list (pv 6) (pv 8) (fun _ _ => rfl)) (pe_ix ix_tup (pe_ix ix_list (pv 7) (pv 8) (fun _ _ => rfl)) pe_int (fun _ _ => rfl)) (nomark _))))) (pss_one (ps_ret (pe_tup (pa_cons pe_str pa_nil)))) pss_nil)))
      (pss_cons (ps_if (pt_cmpR op_ne (pe_call G_law_encoded (hr.mono (by decide)) rfl T.g__law_encoded T.k__law_encoded T.bd__law_encoded .nil pass0 (pa_cons (pv 1) (pa_cons (pv 3) (pa_cons (pv 6) pa_nil)))) (pv 0) (nomark _)) (pss_one (ps_ret (pe_tup (pa_cons pe_str pa_nil)))) pss_nil)
      (pss_one (ps_ret (pe_call G_law_instruction (hr.mono (by decide)) rfl T.g__law_instruction T.k__law_instruction T.bd__law_instruction .nil pass0 (pa_cons (pv 1) (pa_cons (pv 3) (pa_cons (pv 6) pa_nil)))))))))))))))))))))), ?_⟩
    refine ⟨_, rfl, _, _, rfl, rfl, (cd _).1, _, _, rfl, rfl, _, rfl, ite3 (fun e => ?_) (fun e => ?_)⟩
    · have e : (28 : Int) < x / 67108864 := of_decide_eq_true e
      refine ⟨(by show 1 ≤ sizeLine; decide), fun p np => q _ _ (sN (Same.refl _) np) ?_⟩
      unfold decD
      rw [if_neg (fun z => by omega)]
      exact bad_dt (SqT.of upd_same)
    have e : ¬ (28 : Int) < x / 67108864 := of_decide_eq_false e
    obtain ⟨k, hk⟩ : ∃ k : Nat, x / 67108864 = (k : Int) := ⟨(x / 67108864).toNat, by omega⟩
    have hk29 : k < 29 := by omega
    have nb : (x / 67108864).toNat = k := by omega
    refine ⟨fun σ H' => Same H H' ∧ σ = [some (.int x), some (.str (nmS k)), none, none, none, none, none, none, none], ?_, ?_⟩
    · refine ⟨rfl, fun p np => ⟨_, rfl, _, _, rfl, rfl, (cd _).1, _, _, _, _, rfl, rfl, SqL.of upd_same, ?_, sN (Same.refl _) np, rfl⟩⟩
      rw [hk]
      exact atI_nat (nms_find k hk29).1
    rintro σ H1 ⟨s1, rfl⟩
    generalize hb : flg x = b
    have hkd := kd_at x
    have hpl := arl_part x (fm k)
    rw [hb] at hkd hpl
    have hdec : decD x = if (okS (fm k) ((fm k).map (partA x)) && decide (encV k ((fm k).map (partA x)) = x)) = true then insD k ((fm k).map (partA x)) else badD := by
      unfold decD
      rw [nb]
      by_cases c : (okS (fm k) ((fm k).map (partA x)) && decide (encV k ((fm k).map (partA x)) = x)) = true
      · rw [if_pos c, if_pos ⟨by omega, c⟩]
      · rw [if_neg c, if_neg (fun z => c z.2)]
    rw [hdec] at q
    refine ⟨_, rfl, .inl ⟨_, rfl, _, _, rfl, rfl, (show (0 : Int) < 67108864 by decide), ?_⟩⟩
    refine ⟨fun σ H' => Same H H' ∧ σ = [some (.int x), some (.str (nmS k)), some (.int (x % 67108864)), some (.str (fS (kdS b))), none, none, none, none, none], ?_, ?_⟩
    · refine ⟨(by show 2 ≤ sizeLine; decide), fun p np => ⟨_, rfl, _, _, rfl, rfl, (cd _).2.1, _, _, rfl, rfl, (show (0 : Int) < 2 by decide), _, _, _, _, rfl, rfl, SqL.of upd_same, hkd, sN s1 np, rfl⟩⟩
    clear s1
    rintro σ H1 ⟨s1, rfl⟩
    refine ⟨fun σ H' => H1 = H' ∧ σ = [some (.int x), some (.str (nmS k)), some (.int (x % 67108864)), some (.str (fS (kdS b))), some (.int (x % 67108864 % 32768)), none, none, none, none], ⟨_, rfl, .inl ⟨_, rfl, _, _, rfl, rfl, (show (0 : Int) < 32768 by decide), rfl, rfl⟩⟩, ?_⟩
    rintro σ _ ⟨rfl, rfl⟩
    refine ⟨fun σ H' => H1 = H' ∧ σ = [some (.int x), some (.str (nmS k)), some (.int (x % 67108864)), some (.str (fS (kdS b))), some (.int (x % 67108864 % 32768)), some (.int (partF (kdS b) x)), none, none, none], ?_, ?_⟩
    · refine ⟨_, rfl, _, rfl, rfl, .inr ⟨_, rfl, _, _, rfl, rfl, .inl ⟨by decide, by decide⟩, _, _, rfl, rfl, .inl ⟨_, rfl, _, _, rfl, rfl, (show (0 : Int) < 32768 by decide), _, rfl, rfl, .inr ⟨_, rfl, _, _, rfl, rfl, .inl ⟨by decide, by decide⟩, _, _, rfl, rfl, rfl, ?_⟩⟩⟩⟩
      exact congrArg (fun z => [some (V.int x), some (.str (nmS k)), some (.int (x % 67108864)), some (.str (fS (kdS b))), some (.int (x % 67108864 % 32768)), some (.int z), none, none, none]) (n_eq x b _ (kd_int b))
    rintro σ _ ⟨rfl, rfl⟩
    refine ⟨fun σ H' => H1 = H' ∧ σ = [some (.int x), some (.str (nmS k)), some (.int (x % 67108864)), some (.str (fS (kdS b))), some (.int (x % 67108864 % 32768)), some (.int (if k = 10 then partF 4 x else partF (kdS b) x)), none, none, none], ?_, ?_⟩
    · refine ⟨_, rfl, rfl, _, rfl, ?_⟩
      rw [eq_low ⟨k, hk29⟩]
      refine ite3 (fun e => ?_) (fun e => ?_)
      · refine ⟨_, rfl, rfl, ?_⟩
        rw [if_pos (of_decide_eq_true e), partF_4, show x % 67108864 % 32768 = x % 32768 by omega]
        rfl
      · refine ⟨rfl, ?_⟩
        rw [if_neg (of_decide_eq_false e)]
    rintro σ _ ⟨rfl, rfl⟩
    generalize hN : (if k = 10 then partF 4 x else partF (kdS b) x) = N
    refine ⟨fun σ H' => ∃ np, Same H H' ∧ H' np = some (.lst ((ns1 k b x).map V.int)) ∧ σ = [some (.int x), some (.str (nmS k)), some (.int (x % 67108864)), some (.str (fS (kdS b))), some (.int (x % 67108864 % 32768)), some (.int N), some (.ref np), none, none], ?_, ?_⟩
    · refine ⟨_, rfl, _, _, rfl, rfl, (cd _).2.2.1, _, rfl, _, _, rfl, rfl, (cd _).2.2.2, _, _, rfl, rfl, (show (0 : Int) < 32 by decide), _, rfl, (by show 3 ≤ sizeLine; decide), fun p np => ⟨p, sN s1 np, ?_, rfl⟩⟩
      rw [upd_same]
      unfold ns1
      rw [hN, partF_0, partF_1, show x / 2097152 % 32 = x % 67108864 / 2097152 by omega, show x / 65536 % 32 = x % 67108864 / 65536 % 32 by omega]
      rfl
    clear s1
    have h0 : atI ((ns1 k b x).map V.int) 0 = some (.int (partF 0 x)) := at0
    rintro σ H2 ⟨np, s2, hnp, rfl⟩
    refine ⟨fun σ H' => ∃ np, Same H H' ∧ H' np = some (.lst ((ns2 k b x).map V.int)) ∧ σ = [some (.int x), some (.str (nmS k)), some (.int (x % 67108864)), some (.str (fS (kdS b))), some (.int (x % 67108864 % 32768)), some (.int N), some (.ref np), none, none], ?_, ?_⟩
    · have go : k = 9 ∨ k = 14 → ∀ p, H2 p = none → ∃ np, Same H (upd H2 p (.lst [V.int (partF 0 x), V.int ((x % 67108864 + 1048576) % 2097152 - 1048576)])) ∧ upd H2 p (.lst [V.int (partF 0 x), V.int ((x % 67108864 + 1048576) % 2097152 - 1048576)]) np = some (.lst ((ns2 k b x).map V.int)) ∧ np = p := fun c p n => ⟨p, sN s2 n, by rw [upd_same]; unfold ns2; rw [if_pos c, partF_5]; rfl, rfl⟩
      refine ⟨_, rfl, rfl, _, rfl, ?_⟩
      rw [eq_high ⟨k, hk29⟩]
      refine ite3 (fun e => ?_) (fun e => ⟨_, rfl, rfl, _, rfl, ?_⟩)
      · refine ⟨_, rfl, _, _, _, _, rfl, rfl, SqL.of hnp, h0, _, rfl, _, _, rfl, rfl, .inl ⟨_, rfl, _, _, rfl, rfl, (show (0 : Int) < 2097152 by decide), _, _, rfl, rfl, (by show 2 ≤ sizeLine; decide), fun p n => ?_⟩⟩
        obtain ⟨z, z1, z2, rfl⟩ := go (.inl (of_decide_eq_true e)) p n
        exact ⟨z, z1, z2, rfl⟩
      rw [eq_branch ⟨k, hk29⟩]
      refine ite3 (fun e2 => ?_) (fun e2 => ?_)
      · refine ⟨_, rfl, _, _, _, _, rfl, rfl, SqL.of hnp, h0, _, rfl, _, _, rfl, rfl, .inl ⟨_, rfl, _, _, rfl, rfl, (show (0 : Int) < 2097152 by decide), _, _, rfl, rfl, (by show 2 ≤ sizeLine; decide), fun p n => ?_⟩⟩
        obtain ⟨z, z1, z2, rfl⟩ := go (.inr (of_decide_eq_true e2)) p n
        exact ⟨z, z1, z2, rfl⟩
      · refine ⟨np, s2, ?_, rfl⟩
        unfold ns2
        rw [if_neg (fun z => z.elim (of_decide_eq_false e) (of_decide_eq_false e2))]
        exact hnp
    clear hnp s2 np
    rintro σ H2 ⟨np, s2, hnp, rfl⟩
    refine ⟨fun σ H' => ∃ np, Same H H' ∧ H' np = some (.lst ((ns3 k b x).map V.int)) ∧ σ = [some (.int x), some (.str (nmS k)), some (.int (x % 67108864)), some (.str (fS (kdS b))), some (.int (x % 67108864 % 32768)), some (.int N), some (.ref np), none, none], ?_, ?_⟩
    · refine ⟨_, rfl, rfl, _, rfl, ?_⟩
      rw [eq_jump ⟨k, hk29⟩]
      refine ite3 (fun e => ?_) (fun e => ?_)
      · refine ⟨_, rfl, _, _, rfl, rfl, .inl ⟨_, rfl, _, _, rfl, rfl, (show (0 : Int) < 67108864 by decide), _, _, rfl, rfl, (by show 1 ≤ sizeLine; decide), fun p n => ⟨p, sN s2 n, ?_, rfl⟩⟩⟩
        rw [upd_same]; unfold ns3; rw [if_pos (of_decide_eq_true e), partF_6]; rfl
      · refine ⟨np, s2, ?_, rfl⟩
        unfold ns3
        rw [if_neg (of_decide_eq_false e)]
        exact hnp
    clear hnp s2 np
    rintro σ H2 ⟨np, s2, hnp, rfl⟩
    refine ⟨fun σ H' => ∃ np, Same H H' ∧ H' np = some (.lst ((ns4 k b x).map V.int)) ∧ σ = [some (.int x), some (.str (nmS k)), some (.int (x % 67108864)), some (.str (fS (kdS b))), some (.int (x % 67108864 % 32768)), some (.int N), some (.ref np), none, none], ?_, ?_⟩
    · have go : k = 15 ∨ k = 19 → ∀ p, H2 p = none → ∃ np, Same H (upd H2 p (.lst [V.int (x % 67108864)])) ∧ upd H2 p (.lst [V.int (x % 67108864)]) np = some (.lst ((ns4 k b x).map V.int)) ∧ np = p := fun c p n => ⟨p, sN s2 n, by rw [upd_same]; unfold ns4; rw [if_pos c, partF_7]; rfl, rfl⟩
      refine ⟨_, rfl, rfl, _, rfl, ?_⟩
      rw [eq_call ⟨k, hk29⟩]
      refine ite3 (fun e => ?_) (fun e => ⟨_, rfl, rfl, _, rfl, ?_⟩)
      · refine ⟨_, rfl, (by show 1 ≤ sizeLine; decide), fun p n => ?_⟩
        obtain ⟨z, z1, z2, rfl⟩ := go (.inl (of_decide_eq_true e)) p n
        exact ⟨z, z1, z2, rfl⟩
      rw [eq_raise ⟨k, hk29⟩]
      refine ite3 (fun e2 => ?_) (fun e2 => ?_)
      · refine ⟨_, rfl, (by show 1 ≤ sizeLine; decide), fun p n => ?_⟩
        obtain ⟨z, z1, z2, rfl⟩ := go (.inr (of_decide_eq_true e2)) p n
        exact ⟨z, z1, z2, rfl⟩
      · refine ⟨np, s2, ?_, rfl⟩
        unfold ns4
        rw [if_neg (fun z => z.elim (of_decide_eq_false e) (of_decide_eq_false e2))]
        exact hnp
    clear hnp s2 np
    rintro σ H2 ⟨np, s2, hnp, rfl⟩
    refine ⟨fun σ H' => ∃ rp, Same H2 H' ∧ Rg K H' rp (rgs k b) ∧ σ = [some (.int x), some (.str (nmS k)), some (.int (x % 67108864)), some (.str (fS (kdS b))), some (.int (x % 67108864 % 32768)), some (.int N), some (.ref np), some (.ref rp), none], ⟨_, rfl, _, rfl, k, b, hk29, rfl, fun rp H3 s3 hR nr => ⟨rp, s3, hR, rfl⟩⟩, ?_⟩
    rintro σ H3 ⟨rp, s3, hR, rfl⟩
    have hn3 := s3 _ _ hnp
    have s3 : Same H H3 := s2.trans s3
    clear s2 hnp
    obtain ⟨ts, t1, t2, t3⟩ := id hR
    obtain ⟨l1, l2⟩ := ns_len b x k hk29
    have lr : (rgs k b).length = (fm k).length := List.length_map _
    refine ⟨fun σ H' => ∃ np, Same H H' ∧ H' np = some (.lst ((ns5 k b x).map V.int)) ∧ Rg K H' rp (rgs k b) ∧ σ = [some (.int x), some (.str (nmS k)), some (.int (x % 67108864)), some (.str (fS (kdS b))), some (.int (x % 67108864 % 32768)), some (.int N), some (.ref np), some (.ref rp), none], ?_, ?_⟩
    · refine ⟨_, rfl, _, rfl, _, _, rfl, .inl (SqL.of hn3), _, rfl, _, _, rfl, .inl (SqL.of t1), _, _, rfl, rfl, _, rfl, _, _, rfl, SqL.of hn3, fun p n => ⟨p, sN s3 n, ?_, ?_, rfl⟩⟩
      · rw [upd_same, List.length_map, List.length_map, t2, lr, show ((ns4 k b x).length : Int) - ((fm k).length : Int) = (((ns4 k b x).length - (fm k).length : Nat) : Int) by omega, cut_lo]
        unfold ns5
        rw [List.map_drop]
      · exact rg_new n hR
    clear hn3 s3
    rintro σ H4 ⟨np4, s4, hn4, hR4, rfl⟩
    refine ⟨fun σ H' => ∃ np, Same H H' ∧ H' np = some (.lst ((nsE k b x).map V.int)) ∧ Rg K H' rp (rgs k b) ∧ σ = [some (.int x), some (.str (nmS k)), some (.int (x % 67108864)), some (.str (fS (kdS b))), some (.int (x % 67108864 % 32768)), some (.int N), some (.ref np), some (.ref rp), none], ?_, ?_⟩
    · rw [← ns_end b x k hk29]
      have go : k = 23 ∨ k = 26 → ∀ p, H4 p = none → ∃ np, Same H (upd H4 p (.lst [V.int (x % 67108864 / 2097152)])) ∧ upd H4 p (.lst [V.int (x % 67108864 / 2097152)]) np = some (.lst ((if k = 23 ∨ k = 26 then [partF 0 x] else ns5 k b x).map V.int)) ∧ Rg K (upd H4 p (.lst [V.int (x % 67108864 / 2097152)])) rp (rgs k b) ∧ np = p := fun c p n => ⟨p, sN s4 n, by rw [upd_same, if_pos c, partF_0, show x / 2097152 % 32 = x % 67108864 / 2097152 by omega]; rfl, rg_new n hR4, rfl⟩
      refine ⟨_, rfl, rfl, _, rfl, ?_⟩
      rw [eq_get ⟨k, hk29⟩]
      refine ite3 (fun e => ?_) (fun e => ⟨_, rfl, rfl, _, rfl, ?_⟩)
      · refine ⟨_, rfl, _, _, rfl, rfl, (cd _).2.2.1, (by show 1 ≤ sizeLine; decide), fun p n => ?_⟩
        obtain ⟨z, z1, z2, z3, rfl⟩ := go (.inl (of_decide_eq_true e)) p n
        exact ⟨z, z1, z2, z3, rfl⟩
      rw [eq_bar ⟨k, hk29⟩]
      refine ite3 (fun e2 => ?_) (fun e2 => ?_)
      · refine ⟨_, rfl, _, _, rfl, rfl, (cd _).2.2.1, (by show 1 ≤ sizeLine; decide), fun p n => ?_⟩
        obtain ⟨z, z1, z2, z3, rfl⟩ := go (.inr (of_decide_eq_true e2)) p n
        exact ⟨z, z1, z2, z3, rfl⟩
      · refine ⟨np4, s4, ?_, hR4, rfl⟩
        rw [if_neg (fun z => z.elim (of_decide_eq_false e) (of_decide_eq_false e2))]
        exact hn4
    clear hn4 s4 hR4
    rintro σ H5 ⟨np5, s5, hn5, hR5, rfl⟩
    obtain ⟨us, u1, u2, u3⟩ := id hR5
    have lE : (nsE k b x).length = (rgs k b).length := List.length_map _
    have lf : (fm k).length = (nsE k b x).length := by rw [lE, lr]
    have hbad : okN b (fm k) (nsE k b x) = false → ∀ p H', Same H H' → H' p = some (.tup [.str "bad"]) → Q (.ref p) H' := fun c p H' s e => by
      refine q _ _ s ?_
      rw [← hpl, arL_ok]
      show DT K H' (.ref p) (if (okN b (fm k) (nsE k b x) && _) = true then _ else badD)
      rw [c, Bool.false_and, if_neg Bool.false_ne_true]
      exact bad_dt (SqT.of e)
    have lr3 : (rgs k b).length ≤ 3 := by omega
    refine ⟨_, rfl, _, _, rfl, .inl (SqL.of u1), _, rfl, by rw [List.length_map]; omega, by rw [List.length_map]; omega, ?_⟩
    refine for_range (lo := 0) (n := ((us.map V.ref).length : Int).toNat) (fun i σ H' => H5 = H' ∧ (∀ (j f : Nat) (y : Int), j < i → (rgs k b)[j]? = some f → (nsE k b x)[j]? = some y → okF f y = true) ∧ ∃ o, σ = [some (.int x), some (.str (nmS k)), some (.int (x % 67108864)), some (.str (fS (kdS b))), some (.int (x % 67108864 % 32768)), some (.int N), some (.ref np5), some (.ref rp), o]) ?_ ?_ ?_
    · exact ⟨rfl, fun j _ _ hj => absurd hj (Nat.not_lt_zero j), none, rfl⟩
    · rintro i σ H' hi ⟨rfl, hok, o, rfl⟩
      rw [List.length_map, u2] at hi
      have hi : i < (rgs k b).length := by omega
      obtain ⟨z, z1, z2⟩ := u3 i _ (List.getElem?_eq_getElem hi)
      generalize hf : (rgs k b)[i] = f at z2
      have hf' : (rgs k b)[i]? = some f := by rw [List.getElem?_eq_getElem hi, hf]
      obtain ⟨y, hy⟩ : ∃ y, (nsE k b x)[i]? = some y := ⟨_, List.getElem?_eq_getElem (by omega)⟩
      have a1 : atI ((nsE k b x).map V.int) (0 + (i : Int)) = some (.int y) := by rw [Int.zero_add]; exact atI_nat (by rw [List.getElem?_map, hy]; rfl)
      have a2 : atI (us.map V.ref) (0 + (i : Int)) = some (.ref z) := by rw [Int.zero_add]; exact atI_nat (by rw [List.getElem?_map, z1]; rfl)
      have fin : okF f y = false → okN b (fm k) (nsE k b x) = false := fun c => okN_bad c hf' hy
      refine ⟨_, rfl, _, rfl, _, _, _, _, rfl, rfl, SqL.of hn5, a1, _, rfl, _, rfl, _, _, _, _, rfl, rfl, SqL.of u1, a2, _, _, _, _, rfl, rfl, z2, at0, _, _, rfl, rfl, _, rfl, ite3 (fun e => ?_) (fun e => ?_)⟩
      · have c : ¬ fLo f ≤ y := by have := of_decide_eq_true e; omega
        refine ⟨(by show 1 ≤ sizeLine; decide), fun p n => hbad (fin ?_) p _ (sN s5 n) upd_same⟩
        unfold okF; rw [decide_eq_false c]; rfl
      refine ⟨_, rfl, _, rfl, _, _, _, _, rfl, rfl, SqL.of hn5, a1, _, rfl, _, rfl, _, _, _, _, rfl, rfl, SqL.of u1, a2, _, _, _, _, rfl, rfl, z2, atI_nat (j := 1) rfl, _, _, rfl, rfl, _, rfl, ite3 (fun e2 => ?_) (fun e2 => ?_)⟩
      · have c : ¬ y ≤ fHi f := by have := of_decide_eq_true e2; omega
        refine ⟨(by show 1 ≤ sizeLine; decide), fun p n => hbad (fin ?_) p _ (sN s5 n) upd_same⟩
        unfold okF; rw [decide_eq_false c]; cases decide (fLo f ≤ y) <;> rfl
      · have c1 : fLo f ≤ y := by have := of_decide_eq_false e; omega
        have c2 : y ≤ fHi f := by have := of_decide_eq_false e2; omega
        refine ⟨rfl, fun j g v hj e3 e4 => ?_, _, rfl⟩
        by_cases c : j = i
        · subst c
          rw [hf'] at e3; rw [hy] at e4
          obtain rfl := Option.some.inj e3
          obtain rfl := Option.some.inj e4
          unfold okF; rw [decide_eq_true c1, decide_eq_true c2]; rfl
        · exact hok j g v (by omega) e3 e4
    · rintro σ H' ⟨rfl, hok, o, rfl⟩
      rw [List.length_map, u2] at hok
      have hN5 : okN b (fm k) (nsE k b x) = true := okN_of fun j f y e1 e2 => hok j f y (by rw [Int.toNat_natCast]; exact (List.getElem?_eq_some_iff.mp e1).1) e1 e2
      have hpl : arL b (fm k) (nsE k b x) = (fm k).map (partA x) := hpl
      have hokS : okS (fm k) ((fm k).map (partA x)) = true := by rw [← hpl, arL_ok]; exact hN5
      rw [hokS, Bool.true_and] at q
      refine ⟨_, rfl, _, rfl, _, rfl, k, b, np5, _, hk29, rfl, hn5, lf, hN5, fun H6 s6 => ?_⟩
      rw [hpl]
      refine ⟨_, rfl, rfl, _, rfl, ite3 (fun e => ?_) (fun e => ?_)⟩
      · have c : ¬ encV k ((fm k).map (partA x)) = x := by
          intro z; rw [z] at e; simp at e
        refine ⟨(by show 1 ≤ sizeLine; decide), fun p n => q _ _ (sN (s5.trans s6) n) ?_⟩
        rw [decide_eq_false c, if_neg Bool.false_ne_true]
        exact bad_dt (SqT.of upd_same)
      · have c : encV k ((fm k).map (partA x)) = x := by simpa using e
        refine ⟨_, rfl, _, rfl, _, rfl, k, b, np5, _, hk29, rfl, s6 _ _ hn5, lf, fun ip ws H7 s7 hI hA => q _ _ ((s5.trans s6).trans s7) ?_⟩
        rw [decide_eq_true c, if_pos rfl]
        rw [hpl] at hA
        exact ins_dt hI hA
end

def shapes : List (List Nat) := [[], [0, 1, 8], [0, 5], [0, 1, 4], [6], [7], [1, 8], [8], [0]]
theorem fm_shape : ∀ k : _root_.Fin 29, fm k.val ∈ shapes := by decide +kernel
theorem src_rt {b : Bool} {s w : Int} (h : okF (kdS b) s = true) (e : w % 65536 = bitF (kdS b) s) : Ar.s (flg w) (partF (kdS (flg w)) w) = Ar.s b s := by
  rw [src_val h] at e
  have r := okF_r h
  cases b with
  | true =>
    have r : -16384 ≤ s ∧ s ≤ 16383 := r
    rw [if_pos rfl] at e
    have f1 : flg w = true := decide_eq_true (by omega)
    rw [f1, show partF (kdS true) w = s from (partF_3 w).trans (by omega)]
  | false =>
    have r : 0 ≤ s ∧ s ≤ 31 := r
    rw [if_neg Bool.false_ne_true] at e
    have f1 : flg w = false := decide_eq_false (by omega)
    rw [f1, show partF (kdS false) w = s from (partF_2 w).trans (by omega)]
theorem src_bd {b : Bool} {s : Int} (h : okF (kdS b) s = true) : 0 ≤ bitF (kdS b) s ∧ bitF (kdS b) s < 65536 := by
  rw [src_val h]
  have r := okF_r h
  cases b with
  | true =>
    have r : -16384 ≤ s ∧ s ≤ 16383 := r
    rw [if_pos rfl]; omega
  | false =>
    have r : 0 ≤ s ∧ s ≤ 31 := r
    rw [if_neg Bool.false_ne_true]; omega
def RT (b : Bool) (k : Nat) (fs : List Nat) (ns : List Int) (S : Int) : Prop := 0 ≤ S ∧ S < 67108864 ∧ ∀ w : Int, w = (k : Int) * 67108864 + S → fs.map (partA w) = arL b fs ns
theorem rt_shape (b : Bool) (k : Nat) (fs : List Nat) (hf : fs ∈ shapes) (ns : List Int) (hl : fs.length = ns.length) (ho : okN b fs ns = true) : RT b k fs ns (sumB fs (arL b fs ns)) := by
  have hf : fs = [] ∨ fs = [0, 1, 8] ∨ fs = [0, 5] ∨ fs = [0, 1, 4] ∨ fs = [6] ∨ fs = [7] ∨ fs = [1, 8] ∨ fs = [8] ∨ fs = [0] := by simpa [shapes] using hf
  rcases hf with rfl | rfl | rfl | rfl | rfl | rfl | rfl | rfl | rfl
  · match ns, hl with
    | [], _ => exact ⟨(by show (0 : Int) ≤ 0; decide), (by show (0 : Int) < 67108864; decide), fun w _ => rfl⟩
  · match ns, hl with
    | [d, c, s], _ =>
      obtain ⟨h0, ho⟩ := cond_t ho
      obtain ⟨h1, ho⟩ := cond_t ho
      obtain ⟨h2, _⟩ := cond_t ho
      have r0 : 0 ≤ d ∧ d ≤ 31 := okF_r h0
      have r1 : 0 ≤ c ∧ c ≤ 31 := okF_r h1
      have e0 := bit_d h0
      have e1 := bit_a h1
      have e2 := src_bd h2
      have key : ∀ S, S = bitF 0 d + (bitF 1 c + (bitF (kdS b) s + 0)) → RT b k [0, 1, 8] [d, c, s] S := fun S e => by
        rw [e0, e1] at e
        refine ⟨by omega, by omega, fun w hw => ?_⟩
        show [Ar.n (partF 0 w), Ar.n (partF 1 w), Ar.s (flg w) (partF (kdS (flg w)) w)] = [Ar.n d, Ar.n c, Ar.s b s]
        rw [src_rt h2 (by omega), partF_0, partF_1, show w / 2097152 % 32 = d by omega, show w / 65536 % 32 = c by omega]
      exact key _ rfl
  · match ns, hl with
    | [d, c], _ =>
      obtain ⟨h0, ho⟩ := cond_t ho
      obtain ⟨h1, _⟩ := cond_t ho
      have r0 : 0 ≤ d ∧ d ≤ 31 := okF_r h0
      have r1 : -1048576 ≤ c ∧ c ≤ 1048575 := okF_r h1
      have e0 := bit_d h0
      have key : ∀ S, S = bitF 0 d + (c % 2097152 * 1 + 0) → RT b k [0, 5] [d, c] S := fun S e => by
        rw [e0] at e
        refine ⟨by omega, by omega, fun w hw => ?_⟩
        show [Ar.n (partF 0 w), Ar.n (partF 5 w)] = [Ar.n d, Ar.n c]
        rw [partF_0, partF_5, show w / 2097152 % 32 = d by omega, show (w % 67108864 + 1048576) % 2097152 - 1048576 = c by omega]
      exact key _ rfl
  · match ns, hl with
    | [d, c, s], _ =>
      obtain ⟨h0, ho⟩ := cond_t ho
      obtain ⟨h1, ho⟩ := cond_t ho
      obtain ⟨h2, _⟩ := cond_t ho
      have r0 : 0 ≤ d ∧ d ≤ 31 := okF_r h0
      have r1 : 0 ≤ c ∧ c ≤ 31 := okF_r h1
      have r2 : 0 ≤ s ∧ s ≤ 2047 := okF_r h2
      have e0 := bit_d h0
      have e1 := bit_a h1
      have e2 := bit_part h2
      have key : ∀ S, S = bitF 0 d + (bitF 1 c + (bitF 4 s + 0)) → RT b k [0, 1, 4] [d, c, s] S := fun S e => by
        rw [e0, e1, e2] at e
        refine ⟨by omega, by omega, fun w hw => ?_⟩
        show [Ar.n (partF 0 w), Ar.n (partF 1 w), Ar.n (partF 4 w)] = [Ar.n d, Ar.n c, Ar.n s]
        rw [partF_0, partF_1, partF_4, show w / 2097152 % 32 = d by omega, show w / 65536 % 32 = c by omega, show w % 32768 = s by omega]
      exact key _ rfl
  · match ns, hl with
    | [c], _ =>
      obtain ⟨h1, _⟩ := cond_t ho
      have r1 : -33554432 ≤ c ∧ c ≤ 33554431 := okF_r h1
      have key : ∀ S, S = c % 67108864 * 1 + 0 → RT b k [6] [c] S := fun S e => by
        refine ⟨by omega, by omega, fun w hw => ?_⟩
        show [Ar.n (partF 6 w)] = [Ar.n c]
        rw [partF_6, show (w % 67108864 + 33554432) % 67108864 - 33554432 = c by omega]
      exact key _ rfl
  · match ns, hl with
    | [c], _ =>
      obtain ⟨h1, _⟩ := cond_t ho
      have r1 : 0 ≤ c ∧ c ≤ 67108863 := okF_r h1
      have key : ∀ S, S = c % 67108864 * 1 + 0 → RT b k [7] [c] S := fun S e => by
        refine ⟨by omega, by omega, fun w hw => ?_⟩
        show [Ar.n (partF 7 w)] = [Ar.n c]
        rw [partF_7, show w % 67108864 = c by omega]
      exact key _ rfl
  · match ns, hl with
    | [c, s], _ =>
      obtain ⟨h1, ho⟩ := cond_t ho
      obtain ⟨h2, _⟩ := cond_t ho
      have r1 : 0 ≤ c ∧ c ≤ 31 := okF_r h1
      have e1 := bit_a h1
      have e2 := src_bd h2
      have key : ∀ S, S = bitF 1 c + (bitF (kdS b) s + 0) → RT b k [1, 8] [c, s] S := fun S e => by
        rw [e1] at e
        refine ⟨by omega, by omega, fun w hw => ?_⟩
        show [Ar.n (partF 1 w), Ar.s (flg w) (partF (kdS (flg w)) w)] = [Ar.n c, Ar.s b s]
        rw [src_rt h2 (by omega), partF_1, show w / 65536 % 32 = c by omega]
      exact key _ rfl
  · match ns, hl with
    | [s], _ =>
      obtain ⟨h2, _⟩ := cond_t ho
      have e2 := src_bd h2
      have key : ∀ S, S = bitF (kdS b) s + 0 → RT b k [8] [s] S := fun S e => by
        refine ⟨by omega, by omega, fun w hw => ?_⟩
        show [Ar.s (flg w) (partF (kdS (flg w)) w)] = [Ar.s b s]
        rw [src_rt h2 (by omega)]
      exact key _ rfl
  · match ns, hl with
    | [d], _ =>
      obtain ⟨h0, _⟩ := cond_t ho
      have r0 : 0 ≤ d ∧ d ≤ 31 := okF_r h0
      have e0 := bit_d h0
      have key : ∀ S, S = bitF 0 d + 0 → RT b k [0] [d] S := fun S e => by
        rw [e0] at e
        refine ⟨by omega, by omega, fun w hw => ?_⟩
        show [Ar.n (partF 0 w)] = [Ar.n d]
        rw [partF_0, show w / 2097152 % 32 = d by omega]
      exact key _ rfl
theorem dec_enc (b : Bool) (k : Nat) (hk : k < 29) (ns : List Int) (hl : (fm k).length = ns.length) (ho : okN b (fm k) ns = true) :
    0 ≤ encV k (arL b (fm k) ns) ∧ encV k (arL b (fm k) ns) < 4294967296 ∧ decD (encV k (arL b (fm k) ns)) = insD k (arL b (fm k) ns) := by
  obtain ⟨h1, h2, h3⟩ := rt_shape b k (fm k) (fm_shape ⟨k, hk⟩) ns hl ho
  have h3 := h3 _ rfl
  have e : encV k (arL b (fm k) ns) = (k : Int) * 67108864 + sumB (fm k) (arL b (fm k) ns) := rfl
  refine ⟨by omega, by omega, ?_⟩
  unfold decD
  rw [show (encV k (arL b (fm k) ns) / 67108864).toNat = k by omega]
  rw [← e] at h3
  rw [h3, if_pos ⟨by omega, by rw [arL_ok, ho, decide_eq_true rfl]; rfl⟩]

def spLaw (K : PySem.W.Frag) : Sp := fun vs H Q _ => ∃ (a : Addr) (ns : List Int), vs = [.ref a] ∧ SqL K H a (ns.map V.int) ∧ ns.length ≤ 63 ∧ ∀ H', Q (.bl true) H'
theorem FnOk.calm {P : Program} {w : World} {K : PySem.W.Frag} {mg : Str → Option Value} {base : Heap} {k : Nat} {f : Addr} {fd : FuncData} {ps : List Str} {sp : Sp} (F : FnOk P w K mg base (L2.CX P w) k f fd ps sp) : FnOk P w K mg base CX0 k f fd ps (fun vs H Q _ => sp vs H Q E0) :=
  ⟨fun vs H Q _ q => F.len vs H Q E0 q, fun A outer s H args us vs Q E hr he hb hv hs => codeAny_mono (F.run A outer s H args us vs Q E0 hr he hb hv hs) fun r s' h => by
    match r, h with
    | .ok (.ret u), h => exact h
    | .ok .next, h => exact h.elim
    | .ok .brk, h => exact h.elim
    | .ok .cont, h => exact h.elim
    | .error e, h =>
      obtain ⟨_, _, _, _, _, _, _, _, _, _, _, _, z⟩ := h
      exact z.elim⟩
section
variable {P : Program} {w : World} {K : PySem.W.Frag} {mg : Str → Option Value} {base : Heap} {a : Ad}
theorem ok_encodeC (T : Txt w K mg a) : FnOk P w K mg base CX0 3 a.f_encode a.d_encode ["instruction"] (spEncC K) := (FnOk.calm (ok_encode T)).imp fun vs H Q E h => by
  obtain ⟨ip, k, ws, xs, h1, h2, h3, h4, h5, h6, q⟩ := h
  exact ⟨ip, k, ws, xs, h1, h2, h3, h4, h5, fun H' s' => ⟨fun _ => q H' s', fun z => by rw [h6] at z; exact nomatch z⟩⟩
end
section
variable {P : Program} {w : World} {K : PySem.W.Frag} {mg : Str → Option Value} {base : Heap} {a : Ad}
theorem f_bounds : ∀ f : _root_.Fin 8, fLo f.val ≤ fHi f.val ∧ -(2 ^ 40) ≤ fLo f.val ∧ fHi f.val ≤ 2 ^ 40 := by decide +kernel
theorem rgs_lt : ∀ k : _root_.Fin 29, ∀ b : Bool, ∀ f ∈ rgs k.val b, f < 8 := by decide +kernel
theorem rgs_len {k : Nat} {b : Bool} : (rgs k b).length = (fm k).length := List.length_map ..
theorem dts_str {K : PySem.W.Frag} {H : Hp} : ∀ xs : List Str, DTs K H (xs.map V.str) (xs.map PyData.str)
  | [] => .nil
  | x :: xs => .cons (.str x) (dts_str xs)
theorem okd_str (xs : List Str) (h : xs.length ≤ 1000000) : okD 2 (.tuple (xs.map PyData.str)) := ⟨fun d hd => by
  obtain ⟨x, _, rfl⟩ := List.mem_map.mp hd
  trivial, by rw [List.length_map]; exact h⟩
theorem ok_law (T : Txt w K mg a) : FnOk P w K mg base CX0 9 a.f_law a.d_law ["script"] (spLaw K) := by
  have G_law_state : FnOk P w K mg base CX0 1 _ _ _ _ := ok_law_state T
  have G_law_draw : FnOk P w K mg base CX0 3 _ _ _ _ := ok_law_draw T
  have G_law_names : FnOk P w K mg base CX0 1 _ _ _ _ := ok_law_names T
  have G_law_ranges : FnOk P w K mg base CX0 1 _ _ _ _ := ok_law_ranges T
  have G_law_between : FnOk P w K mg base CX0 4 _ _ _ _ := ok_law_between T
  have G_law_instruction : FnOk P w K mg base CX0 1 _ _ _ _ := ok_law_instruction T
  have G_law_encoded : FnOk P w K mg base CX0 2 _ _ _ _ := ok_law_encoded T
  have G_law_decoded : FnOk P w K mg base CX0 3 _ _ _ _ := ok_law_decoded T
  have G_encode : FnOk P w K mg base CX0 3 _ _ _ _ := ok_encodeC T
  have G_decode : FnOk P w K mg base CX0 4 _ _ _ _ := ok_decode T
  have G_law_same : FnOk P w K mg base CX0 3 _ _ _ _ := ok_same T 2
  refine T.F_law.ok sc_law (fun vs H Q E h => ?_) (fun cdv A outer s H vs Q E hr h => ?_)
  · obtain ⟨_, _, rfl, _⟩ := h; rfl
  · obtain ⟨sa, ns0, rfl, hS, hlen, q⟩ := h
    refine ⟨_, (C8.pss_cut (ps_if (pt_not (pt_val (pe_call G_law_same (hr.mono (by decide)) rfl T.g__law_same T.k__law_same T.bd__law_same .nil pass0 (pa_cons (pe_glob (v := .ref a.c_NAMES) rfl T.g_NAMES rfl) (pa_cons (pe_callTy call_tuple_of (by rfl) T.b_tuple (by decide +kernel) (pa_cons (pe_call0 G_law_names (hr.mono (by decide)) rfl T.g__law_names T.k__law_names T.bd__law_names .nil pass0) pa_nil)) pa_nil))))) (pss_one (ps_ret pe_bl)) pss_nil)
      (pss_cons (ps_set (i := 1) sc_law.nd rfl (Or.inr rfl) (pe_call G_law_state (hr.mono (by decide)) rfl T.g__law_state T.k__law_state T.bd__law_state .nil pass0 (pa_cons (pv 0) (pa_cons pe_int pa_nil))))
      (pss_cons (ps_set (i := 2) sc_law.nd rfl (Or.inl rfl) (pe_ix ix_list (pe_call0 G_law_names (hr.mono (by decide)) rfl T.g__law_names T.k__law_names T.bd__law_names .nil pass0) (pe_call G_law_draw (hr.mono (by decide)) rfl T.g__law_draw T.k__law_draw T.bd__law_draw .nil pass0 (pa_cons (pv 1) (pa_cons pe_int pa_nil))) (fun _ _ => rfl)))
      (C8.pss_cut (ps_set (i := 3) sc_law.nd rfl (Or.inl rfl) (pe_ix ix_list (pe_lst (pa_cons pe_str (pa_cons pe_str pa_nil))) (pe_call G_law_draw (hr.mono (by decide)) rfl T.g__law_draw T.k__law_draw T.bd__law_draw .nil pass0 (pa_cons (pv 1) (pa_cons pe_int pa_nil))) (fun _ _ => rfl)))
      (C8.pss_cut (ps_setLc (i := 4) (own := [("low", 5), ("high", 6)]) (g := gTup K 2 (gCons (gName 5) (gCons (gName 6) (gNil)))) rfl sc_law.nd rfl rfl (sw_true rfl rfl rfl (by decide +kernel)) (pi_list (pe_call G_law_ranges (hr.mono (by decide)) rfl T.g__law_ranges T.k__law_ranges T.bd__law_ranges .nil pass0 (pa_cons (pv 2) (pa_cons (pv 3) pa_nil)))) (blkOk_by (own := [("low", 5), ("high", 6)]) (N := ["script", "state", "name", "kind", "numbers", "low", "high", "instruction", "word", "other"]) (sc := defScope s_law) (by decide +kernel)) (fun _ _ _ _ _ => pg_tup rfl (pgs_cons (pg_name (i := 5) sc_law.nd rfl (Or.inl rfl)) (pgs_cons (pg_name (i := 6) sc_law.nd rfl (Or.inl rfl)) (pgs_nil)))) (fun _ _ _ _ _ => pts_nil) (fun _ _ _ _ _ => (pe_call G_law_between (hr.mono (by decide)) rfl T.g__law_between T.k__law_between T.bd__law_between .nil pass0 (pa_cons (pv 1) (pa_cons (pv 5) (pa_cons (pv 6) pa_nil))))))
      (pss_cons (ps_set (i := 7) sc_law.nd rfl (Or.inl rfl) (pe_call G_law_instruction (hr.mono (by decide)) rfl T.g__law_instruction T.k__law_instruction T.bd__law_instruction .nil pass0 (pa_cons (pv 2) (pa_cons (pv 3) (pa_cons (pv 4) pa_nil)))))
      (pss_cons (ps_set (i := 8) sc_law.nd rfl (Or.inl rfl) (pe_call G_law_encoded (hr.mono (by decide)) rfl T.g__law_encoded T.k__law_encoded T.bd__law_encoded .nil pass0 (pa_cons (pv 2) (pa_cons (pv 3) (pa_cons (pv 4) pa_nil)))))
      (C8.pss_cut (ps_if (PW.pt (pw_or (pt_not (pt_val (pe_call G_law_same (hr.mono (by decide)) rfl T.g__law_same T.k__law_same T.bd__law_same .nil pass0 (pa_cons (pe_call G_encode (hr.mono (by decide)) rfl T.g_encode T.k_encode T.bd_encode .nil pass0 (pa_cons (pv 7) pa_nil)) (pa_cons (pv 8) pa_nil))))) (pw_or1 (pt_not (pt_val (pe_call G_law_same (hr.mono (by decide)) rfl T.g__law_same T.k__law_same T.bd__law_same .nil pass0 (pa_cons (pe_call G_decode (hr.mono (by decide)) rfl T.g_decode T.k_decode T.bd_decode .nil pass0 (pa_cons (pv 8) pa_nil)) (pa_cons (pv 7) pa_nil)))))))) (pss_one (ps_ret pe_bl)) pss_nil)
      (C8.pss_cut (ps_set (i := 9) sc_law.nd rfl (Or.inl rfl) (pe_op op_add (pv 8) (pe_op op_mul (pe_ix ix_list (pe_lst (pa_cons pe_int (pa_cons pe_int (pa_cons pe_int (pa_cons pe_int (pa_cons pe_int (pa_cons pe_int (pa_cons pe_int pa_nil)))))))) (pe_call G_law_draw (hr.mono (by decide)) rfl T.g__law_draw T.k__law_draw T.bd__law_draw .nil pass0 (pa_cons (pv 1) (pa_cons pe_int pa_nil))) (fun _ _ => rfl)) (pe_call G_law_draw (hr.mono (by decide)) rfl T.g__law_draw T.k__law_draw T.bd__law_draw .nil pass0 (pa_cons (pv 1) (pa_cons pe_int pa_nil))))))
      (C8.pss_cut (ps_if (pt_cmpR op_eq (pe_call G_law_draw (hr.mono (by decide)) rfl T.g__law_draw T.k__law_draw T.bd__law_draw .nil pass0 (pa_cons (pv 1) (pa_cons pe_int pa_nil))) pe_int (nomark _)) (pss_one (ps_set (i := 9) sc_law.nd rfl (Or.inl rfl) (pe_call G_law_draw (hr.mono (by decide)) rfl T.g__law_draw T.k__law_draw T.bd__law_draw .nil pass0 (pa_cons (pv 1) (pa_cons pe_int pa_nil))))) pss_nil)
      (pss_cons (ps_set (i := 9) sc_law.nd rfl (Or.inl rfl) (pe_op op_mod (pe_callTy call_int1 (by rfl) T.b_int (by decide +kernel) (pa_cons (pv 9) pa_nil)) pe_int))
      (pss_one (ps_ret (pe_call G_law_same (hr.mono (by decide)) rfl T.g__law_same T.k__law_same T.bd__law_same .nil pass0 (pa_cons (pe_call G_decode (hr.mono (by decide)) rfl T.g_decode T.k_decode T.bd_decode .nil pass0 (pa_cons (pv 9) pa_nil)) (pa_cons (pe_call G_law_decoded (hr.mono (by decide)) rfl T.g__law_decoded T.k__law_decoded T.bd__law_decoded .nil pass0 (pa_cons (pv 9) pa_nil)) pa_nil)))))))))))))))), ?_⟩
    refine ⟨fun σ H' => Same H H' ∧ σ = [some (.ref sa), none, none, none, none, none, none, none, none, none], ?_, ?_⟩
    · refine ⟨rfl, fun pn npn => ⟨_, _, rfl, .inl ⟨SqL.of upd_same, fun pt npt => ?_⟩⟩⟩
      refine ⟨_, _, .tuple (nms.map PyData.str), rfl, .tup (T.q_NAMES _) (dts_str nms), .tup (SqT.of upd_same) (dts_str nms), okd_str nms (by decide), fun H3 s3 => ⟨_, rfl, iteF ?_⟩⟩
      exact ⟨(sN (sN (Same.refl _) npn) npt).trans s3, rfl⟩
    rintro σ H0 ⟨s0, rfl⟩
    have hS := Same.seq s0 hS
    clear s0
    refine ⟨_, rfl, sa, ns0, 0, rfl, hS, hlen, fun st ca H1 t0 b0 nst nca hca hst s1 => ?_⟩
    have S1 : StD H1 st ca ns0 := ⟨⟨_, _, _, _, _, Int.le_refl 0, hst⟩, hca⟩
    clear hst hca s1
    -- name, kind
    refine ⟨rfl, fun pn npn => ⟨_, rfl, st, ca, ns0, 29, rfl, S1.new npn, by decide, by decide, fun v H2 v0 v1 S2 F2 => ?_⟩⟩
    have hpn := F2 _ _ upd_same (S1.ne npn)
    obtain ⟨k, rfl⟩ : ∃ j : Nat, v = (j : Int) := ⟨v.toNat, by omega⟩
    have hk29 : k < 29 := by omega
    refine ⟨_, _, _, _, rfl, rfl, SqL.of hpn, atI_nat (nms_find k hk29).1, ?_⟩
    refine ⟨fun σ H' => ∃ b, StD H' st ca ns0 ∧ σ = [some (.ref sa), some (.ref st), some (.str (nmS k)), some (.str (fS (kdS b))), none, none, none, none, none, none], ?_, ?_⟩
    · refine ⟨(by show 2 ≤ sizeLine; decide), fun p np => ⟨_, rfl, st, ca, ns0, 2, rfl, S2.new np, by decide, by decide, fun v H5 v0 v1 S5 F5 => ?_⟩⟩
      have hp5 := F5 _ _ upd_same (S2.ne np)
      obtain ⟨b, hb⟩ : ∃ b, atI [V.str "reg", V.str "int"] v = some (V.str (fS (kdS b))) := by
        obtain rfl | rfl : v = 0 ∨ v = 1 := by omega
        · exact ⟨false, at0⟩
        · exact ⟨true, atI_nat (j := 1) rfl⟩
      exact ⟨_, _, _, _, rfl, rfl, SqL.of hp5, hb, b, S5, rfl⟩
    clear S1 S2 F2 hpn
    rintro σ H3 ⟨b, S3, rfl⟩
    -- numbers
    refine ⟨fun σ H' => ∃ (D : Addr) (ns : List Int), StD H' st ca ns0 ∧ D ≠ st ∧ H' D = some (.lst (ns.map V.int)) ∧ ns.length = (fm k).length ∧ okL (rgs k b) ns ∧ σ = [some (.ref sa), some (.ref st), some (.str (nmS k)), some (.str (fS (kdS b))), some (.ref D), none, none, none, none, none], ?_, ?_⟩
    · refine ⟨_, rfl, _, rfl, k, b, hk29, rfl, fun rp H6 s6 hR nrp => ?_⟩
      have S6 := S3.same s6
      have rps : rp ≠ st := S3.ne nrp
      obtain ⟨ts, t1, t2, t3⟩ := id hR
      refine ⟨_, rfl, ⟨_, SqL.of t1⟩, fun D2 nD2 => ?_⟩
      have nD2s : D2 ≠ st := S6.ne nD2
      have nD2c : D2 ≠ ca := S6.neC nD2
      have nD2r : D2 ≠ rp := (ne_of_none t1 nD2).symm
      refine lc_list (K := K) (a := rp) (xs := ts.map V.ref) (fun i H' => ∃ ns : List Int, H' D2 = some (.lst (ns.map V.int)) ∧ ns.length = i ∧ okL (rgs k b) ns ∧ StD H' st ca ns0 ∧ H' rp = some (.lst (ts.map V.ref)) ∧ ∀ (i f : Nat), (rgs k b)[i]? = some f → ∃ z, ts[i]? = some z ∧ SqT K H' z [.int (fLo f), .int (fHi f)])
        ⟨[], upd_same, rfl, fun j f x e1 e2 => by simp at e2, S6.new nD2, by rw [upd_ne nD2r.symm]; exact t1, fun i f e => by
          obtain ⟨z, z1, z2⟩ := t3 i f e
          exact ⟨z, z1, KT.new nD2 _ _ z2⟩⟩ (fun i H' _ ⟨_, _, _, _, _, h, _⟩ => SqL.of h) ?_ ?_
      · rintro i x H7 hx ⟨ns, g1, g2, g3, S7, g5, g6⟩
        have hi : i < (rgs k b).length := by
          have := (List.getElem?_eq_some_iff.mp hx).1
          rw [List.length_map] at this
          omega
        obtain ⟨z, z1, z2⟩ := g6 i _ (List.getElem?_eq_getElem hi)
        rw [List.getElem?_map, z1] at hx
        obtain rfl := Option.some.inj hx
        have hf8 := rgs_lt ⟨k, hk29⟩ b _ (List.getElem_mem hi)
        obtain ⟨b1, b2, b3⟩ := f_bounds ⟨(rgs k b)[i], hf8⟩
        refine ⟨z, _, rfl, z2, rfl, _, _, rfl, _, _, rfl, rfl, rfl, _, rfl, _, rfl, _, rfl, st, ca, ns0, fLo (rgs k b)[i], fHi (rgs k b)[i], rfl, S7, b1, by dsimp only at b2; omega, by dsimp only at b3; omega, fun v H8 v0 v1 S8 F8 => ?_⟩
        have hD8 := F8 _ _ g1 nD2s
        refine ⟨_, hD8, sz (by rw [List.length_map]; have := fm_len3 ⟨k, hk29⟩; rw [rgs_len] at hi; dsimp only at this; omega), ns ++ [v], ?_, by simp [g2], fun j f y e1 e2 => ?_, S8.upd nD2s nD2c, ?_, fun j f e => ?_⟩
        · rw [upd_same, List.map_append]
          rfl
        · by_cases c : j < ns.length
          · rw [List.getElem?_append_left c] at e2
            exact g3 j f y e1 e2
          · rw [List.getElem?_append_right (by omega)] at e2
            have hjn : j = ns.length := by
              have := (List.getElem?_eq_some_iff.mp e2).1
              simp at this
              omega
            subst hjn
            rw [Nat.sub_self] at e2
            obtain rfl := Option.some.inj e2
            rw [g2, List.getElem?_eq_getElem hi] at e1
            obtain rfl := Option.some.inj e1
            unfold okF
            rw [decide_eq_true v0, decide_eq_true v1] <;> rfl
        · rw [upd_ne nD2r.symm]
          exact F8 _ _ g5 rps
        · obtain ⟨u, u1, u2⟩ := g6 j f e
          exact ⟨u, u1, KT.put hD8 _ _ (S7.kt F8 _ _ u2)⟩
      · rintro H7 ⟨ns, g1, g2, g3, S7, g5, g6⟩
        rw [List.length_map, t2, rgs_len] at g2
        exact ⟨D2, ns, S7, nD2s, g1, g2, g3, rfl⟩
    rintro σ H4 ⟨D, ns, S4, nDs, hD, hl, hok, rfl⟩
    have hN : okN b (fm k) ns = true := okN_of hok
    obtain ⟨w0, w1, wd⟩ := dec_enc b k hk29 ns hl.symm hN
    have l3 := fm_len3 ⟨k, hk29⟩
    refine ⟨_, rfl, _, rfl, _, rfl, k, b, D, ns, hk29, rfl, hD, hl.symm, fun ip ws H5 s5 hI hw => ?_⟩
    refine ⟨_, rfl, _, rfl, _, rfl, k, b, D, ns, hk29, rfl, s5 _ _ hD, hl.symm, hN, fun H6 s6 => ?_⟩
    have S6 := (S4.same s5).same s6
    have hI6 := seqT s6 hI
    have hw6 := hw.same s6
    have wt : wtS (fm k) (arL b (fm k) ns) := arL_wt (fm_lt ⟨k, hk29⟩) hl.symm
    have okD6 : okD 2 (insD k (arL b (fm k) ns)) := ins_ok (by rw [arL_len hl.symm, hl]; exact l3)
    generalize hW : encV k (arL b (fm k) ns) = W at w0 w1 wd ⊢
    refine ⟨fun σ H' => StD H' st ca ns0 ∧ σ = [some (.ref sa), some (.ref st), some (.str (nmS k)), some (.str (fS (kdS b))), some (.ref D), none, none, some (.ref ip), some (.int W), none], ?_, ?_⟩
    · refine ⟨_, rfl, ip, k, ws, _, hk29, rfl, hI6, hw6, wt, by rw [arL_ok]; exact hN, fun H7 s7 => ⟨_, rfl, _, _, .int W, rfl, by rw [hW]; exact .int W, .int W, trivial, fun H8 s8 => ⟨_, rfl, iteF ?_⟩⟩⟩
      refine ⟨_, rfl, W, rfl, w0, w1, fun v H9 s9 hv => ⟨_, rfl, v, _, insD k (arL b (fm k) ns), rfl, by rw [← wd]; exact hv, ?_, okD6, fun H10 s10 => ⟨_, rfl, iteF ?_⟩⟩⟩
      · exact ins_dt (seqT s9 (seqT s8 (seqT s7 hI6))) (((hw6.same s7).same s8).same s9)
      · exact ⟨(((S6.same s7).same s8).same s9).same s10, rfl⟩
    clear S6 S4 hI hw hI6 hw6 s5 s6 hD
    rintro σ H7 ⟨S7, rfl⟩
    refine ⟨fun σ H' => ∃ y : Int, 0 ≤ y ∧ StD H' st ca ns0 ∧ σ = [some (.ref sa), some (.ref st), some (.str (nmS k)), some (.str (fS (kdS b))), some (.ref D), none, none, some (.ref ip), some (.int W), some (.int y)], ?_, ?_⟩
    · refine ⟨_, rfl, (by show 7 ≤ sizeLine; decide), fun pl npl => ⟨_, rfl, st, ca, ns0, 7, rfl, S7.new npl, by decide, by decide, fun v H8 v0 v1 S8 F8 => ?_⟩⟩
      have hpl := F8 _ _ upd_same (S7.ne npl)
      obtain ⟨m, hm, m0, m1⟩ : ∃ m : Int, atI [V.int 1, V.int 32, V.int 2048, V.int 32768, V.int 65536, V.int 2097152, V.int 67108864] v = some (.int m) ∧ 0 ≤ m ∧ m < 2 ^ 62 := by
        obtain rfl | rfl | rfl | rfl | rfl | rfl | rfl : v = 0 ∨ v = 1 ∨ v = 2 ∨ v = 3 ∨ v = 4 ∨ v = 5 ∨ v = 6 := by omega
        · exact ⟨_, at0, by decide, by decide⟩
        · exact ⟨_, atI_nat (j := 1) rfl, by decide, by decide⟩
        · exact ⟨_, atI_nat (j := 2) rfl, by decide, by decide⟩
        · exact ⟨_, atI_nat (j := 3) rfl, by decide, by decide⟩
        · exact ⟨_, atI_nat (j := 4) rfl, by decide, by decide⟩
        · exact ⟨_, atI_nat (j := 5) rfl, by decide, by decide⟩
        · exact ⟨_, atI_nat (j := 6) rfl, by decide, by decide⟩
      refine ⟨_, _, _, _, rfl, rfl, SqL.of hpl, hm, _, rfl, st, ca, ns0, 32, rfl, S8, by decide, by decide, fun u H9 u0 u1 S9 F9 => ⟨_, _, rfl, rfl, .inl ⟨by omega, by omega⟩, _, _, rfl, rfl, W + m * u, ?_, S9, rfl⟩⟩
      have := Int.mul_nonneg m0 u0
      omega
    clear S7
    rintro σ H8 ⟨y, y0, S8, rfl⟩
    refine ⟨fun σ H' => ∃ y : Int, σ = [some (.ref sa), some (.ref st), some (.str (nmS k)), some (.str (fS (kdS b))), some (.ref D), none, none, some (.ref ip), some (.int W), some (.int y)], ?_, ?_⟩
    · refine ⟨_, rfl, st, ca, ns0, 3, rfl, S8, by decide, by decide, fun v H9 v0 v1 S9 F9 => ⟨rfl, _, rfl, ite3 (fun e => ?_) (fun e => ?_)⟩⟩
      · exact ⟨_, rfl, st, ca, ns0, 4294967296, rfl, S9, by decide, by decide, fun u H10 u0 u1 S10 F10 => ⟨u, rfl⟩⟩
      · exact ⟨y, rfl⟩
    clear S8
    rintro σ H9 ⟨y, rfl⟩
    refine ⟨_, rfl, .inl ⟨_, rfl, _, _, rfl, rfl, (show (0 : Int) < 4294967296 by decide), ?_⟩⟩
    have z0 : 0 ≤ y % 4294967296 := by omega
    have z1 : y % 4294967296 < 4294967296 := by omega
    exact ⟨_, rfl, y % 4294967296, rfl, z0, z1, fun v H10 s10 hv => ⟨_, rfl, y % 4294967296, rfl, z0, z1, fun v2 H11 s11 hv2 => ⟨_, _, decD (y % 4294967296), rfl, hv.keep (KT.same s11), hv2, dec_ok _, fun H12 s12 => q _⟩⟩⟩
end

theorem all_mk {l : PySem.W.OpenLaw} {w : World} {K : PySem.W.Frag} {h : Heap} {mg : Str → Option Value} {fa : Addr} (X : K.In h) (G : h.Ns mainGlobals mg) (hfa : mg "law" = some (.ref fa))
    {C_AdaError : Addr} (aC_AdaError : PySem.W.nsIn K mainGlobals "AdaError" = some (some (.ref C_AdaError)))
    (x_AdaError : PySem.W.excIn K C_AdaError [.type "ValueError", .type "Exception", .type "BaseException", .type "object"] "ValueError.__new__" = true) (kC_AdaError : PySem.W.keepIn K (.ref C_AdaError) = true) (s1_AdaError : PySem.W.subIn K (.ref C_AdaError) (.type "BaseException") = some true) (ty_AdaError : PySem.W.typeIn K (.ref C_AdaError) = some (.type "type")) (ic_AdaError : PySem.W.isClsIn K C_AdaError = true)
    {C_ImageError : Addr} (aC_ImageError : PySem.W.nsIn K mainGlobals "ImageError" = some (some (.ref C_ImageError)))
    (x_ImageError : PySem.W.excIn K C_ImageError [.type "ValueError", .type "Exception", .type "BaseException", .type "object"] "ValueError.__new__" = true) (kC_ImageError : PySem.W.keepIn K (.ref C_ImageError) = true) (s1_ImageError : PySem.W.subIn K (.ref C_ImageError) (.type "BaseException") = some true) (ty_ImageError : PySem.W.typeIn K (.ref C_ImageError) = some (.type "type")) (ic_ImageError : PySem.W.isClsIn K C_ImageError = true)
    (e_ImageError_ImageError : PySem.W.subIn K (.ref C_ImageError) (.ref C_ImageError) = some true)
    {f_encode : Addr} {oc_encode : Value} {od_encode an_encode : Option Addr} {sl_encode : Array (Option Value)} {kV_encode dc_encode pm_encode cd_encode ct_encode : Value}
    (a_encode : PySem.W.nsIn K mainGlobals "encode" = some (some (.ref f_encode)))
    (l_encode : K.lookup f_encode = some ⟨oc_encode, od_encode, .func (PySem.W.fnOf "encode" "encode" (defArgs s_encode) (defBody s_encode) (defScope s_encode) .none kV_encode dc_encode pm_encode an_encode cd_encode ct_encode), sl_encode⟩)
    (c_encode : PySem.W.codeIn K cd_encode "encode" = true)
    (k_encode : PySem.W.keepIn K (.ref f_encode) = true)
    {f_bits_of : Addr} {oc_bits_of : Value} {od_bits_of an_bits_of : Option Addr} {sl_bits_of : Array (Option Value)} {kV_bits_of dc_bits_of pm_bits_of cd_bits_of ct_bits_of : Value}
    (a_bits_of : PySem.W.nsIn K mainGlobals "_bits_of" = some (some (.ref f_bits_of)))
    (l_bits_of : K.lookup f_bits_of = some ⟨oc_bits_of, od_bits_of, .func (PySem.W.fnOf "_bits_of" "_bits_of" (defArgs s_bits_of) (defBody s_bits_of) (defScope s_bits_of) .none kV_bits_of dc_bits_of pm_bits_of an_bits_of cd_bits_of ct_bits_of), sl_bits_of⟩)
    (c_bits_of : PySem.W.codeIn K cd_bits_of "_bits_of" = true)
    (k_bits_of : PySem.W.keepIn K (.ref f_bits_of) = true)
    {f_decode : Addr} {oc_decode : Value} {od_decode an_decode : Option Addr} {sl_decode : Array (Option Value)} {kV_decode dc_decode pm_decode cd_decode ct_decode : Value}
    (a_decode : PySem.W.nsIn K mainGlobals "decode" = some (some (.ref f_decode)))
    (l_decode : K.lookup f_decode = some ⟨oc_decode, od_decode, .func (PySem.W.fnOf "decode" "decode" (defArgs s_decode) (defBody s_decode) (defScope s_decode) .none kV_decode dc_decode pm_decode an_decode cd_decode ct_decode), sl_decode⟩)
    (c_decode : PySem.W.codeIn K cd_decode "decode" = true)
    (k_decode : PySem.W.keepIn K (.ref f_decode) = true)
    {f_part_of : Addr} {oc_part_of : Value} {od_part_of an_part_of : Option Addr} {sl_part_of : Array (Option Value)} {kV_part_of dc_part_of pm_part_of cd_part_of ct_part_of : Value}
    (a_part_of : PySem.W.nsIn K mainGlobals "_part_of" = some (some (.ref f_part_of)))
    (l_part_of : K.lookup f_part_of = some ⟨oc_part_of, od_part_of, .func (PySem.W.fnOf "_part_of" "_part_of" (defArgs s_part_of) (defBody s_part_of) (defScope s_part_of) .none kV_part_of dc_part_of pm_part_of an_part_of cd_part_of ct_part_of), sl_part_of⟩)
    (c_part_of : PySem.W.codeIn K cd_part_of "_part_of" = true)
    (k_part_of : PySem.W.keepIn K (.ref f_part_of) = true)
    {f_law_mixed : Addr} {oc_law_mixed : Value} {od_law_mixed an_law_mixed : Option Addr} {sl_law_mixed : Array (Option Value)} {kV_law_mixed dc_law_mixed pm_law_mixed cd_law_mixed ct_law_mixed : Value}
    (a_law_mixed : PySem.W.nsIn K mainGlobals "_law_mixed" = some (some (.ref f_law_mixed)))
    (l_law_mixed : K.lookup f_law_mixed = some ⟨oc_law_mixed, od_law_mixed, .func (PySem.W.fnOf "_law_mixed" "_law_mixed" (defArgs s_law_mixed) (defBody s_law_mixed) (defScope s_law_mixed) .none kV_law_mixed dc_law_mixed pm_law_mixed an_law_mixed cd_law_mixed ct_law_mixed), sl_law_mixed⟩)
    (c_law_mixed : PySem.W.codeIn K cd_law_mixed "_law_mixed" = true)
    (k_law_mixed : PySem.W.keepIn K (.ref f_law_mixed) = true)
    {f_law_state : Addr} {oc_law_state : Value} {od_law_state an_law_state : Option Addr} {sl_law_state : Array (Option Value)} {kV_law_state dc_law_state pm_law_state cd_law_state ct_law_state : Value}
    (a_law_state : PySem.W.nsIn K mainGlobals "_law_state" = some (some (.ref f_law_state)))
    (l_law_state : K.lookup f_law_state = some ⟨oc_law_state, od_law_state, .func (PySem.W.fnOf "_law_state" "_law_state" (defArgs s_law_state) (defBody s_law_state) (defScope s_law_state) .none kV_law_state dc_law_state pm_law_state an_law_state cd_law_state ct_law_state), sl_law_state⟩)
    (c_law_state : PySem.W.codeIn K cd_law_state "_law_state" = true)
    (k_law_state : PySem.W.keepIn K (.ref f_law_state) = true)
    {f_law_draw : Addr} {oc_law_draw : Value} {od_law_draw an_law_draw : Option Addr} {sl_law_draw : Array (Option Value)} {kV_law_draw dc_law_draw pm_law_draw cd_law_draw ct_law_draw : Value}
    (a_law_draw : PySem.W.nsIn K mainGlobals "_law_draw" = some (some (.ref f_law_draw)))
    (l_law_draw : K.lookup f_law_draw = some ⟨oc_law_draw, od_law_draw, .func (PySem.W.fnOf "_law_draw" "_law_draw" (defArgs s_law_draw) (defBody s_law_draw) (defScope s_law_draw) .none kV_law_draw dc_law_draw pm_law_draw an_law_draw cd_law_draw ct_law_draw), sl_law_draw⟩)
    (c_law_draw : PySem.W.codeIn K cd_law_draw "_law_draw" = true)
    (k_law_draw : PySem.W.keepIn K (.ref f_law_draw) = true)
    {f_law_same : Addr} {oc_law_same : Value} {od_law_same an_law_same : Option Addr} {sl_law_same : Array (Option Value)} {kV_law_same dc_law_same pm_law_same cd_law_same ct_law_same : Value}
    (a_law_same : PySem.W.nsIn K mainGlobals "_law_same" = some (some (.ref f_law_same)))
    (l_law_same : K.lookup f_law_same = some ⟨oc_law_same, od_law_same, .func (PySem.W.fnOf "_law_same" "_law_same" (defArgs s_law_same) (defBody s_law_same) (defScope s_law_same) .none kV_law_same dc_law_same pm_law_same an_law_same cd_law_same ct_law_same), sl_law_same⟩)
    (c_law_same : PySem.W.codeIn K cd_law_same "_law_same" = true)
    (k_law_same : PySem.W.keepIn K (.ref f_law_same) = true)
    {f_law_names : Addr} {oc_law_names : Value} {od_law_names an_law_names : Option Addr} {sl_law_names : Array (Option Value)} {kV_law_names dc_law_names pm_law_names cd_law_names ct_law_names : Value}
    (a_law_names : PySem.W.nsIn K mainGlobals "_law_names" = some (some (.ref f_law_names)))
    (l_law_names : K.lookup f_law_names = some ⟨oc_law_names, od_law_names, .func (PySem.W.fnOf "_law_names" "_law_names" (defArgs s_law_names) (defBody s_law_names) (defScope s_law_names) .none kV_law_names dc_law_names pm_law_names an_law_names cd_law_names ct_law_names), sl_law_names⟩)
    (c_law_names : PySem.W.codeIn K cd_law_names "_law_names" = true)
    (k_law_names : PySem.W.keepIn K (.ref f_law_names) = true)
    {f_law_ranges : Addr} {oc_law_ranges : Value} {od_law_ranges an_law_ranges : Option Addr} {sl_law_ranges : Array (Option Value)} {kV_law_ranges dc_law_ranges pm_law_ranges cd_law_ranges ct_law_ranges : Value}
    (a_law_ranges : PySem.W.nsIn K mainGlobals "_law_ranges" = some (some (.ref f_law_ranges)))
    (l_law_ranges : K.lookup f_law_ranges = some ⟨oc_law_ranges, od_law_ranges, .func (PySem.W.fnOf "_law_ranges" "_law_ranges" (defArgs s_law_ranges) (defBody s_law_ranges) (defScope s_law_ranges) .none kV_law_ranges dc_law_ranges pm_law_ranges an_law_ranges cd_law_ranges ct_law_ranges), sl_law_ranges⟩)
    (c_law_ranges : PySem.W.codeIn K cd_law_ranges "_law_ranges" = true)
    (k_law_ranges : PySem.W.keepIn K (.ref f_law_ranges) = true)
    {f_law_instruction : Addr} {oc_law_instruction : Value} {od_law_instruction an_law_instruction : Option Addr} {sl_law_instruction : Array (Option Value)} {kV_law_instruction dc_law_instruction pm_law_instruction cd_law_instruction ct_law_instruction : Value}
    (a_law_instruction : PySem.W.nsIn K mainGlobals "_law_instruction" = some (some (.ref f_law_instruction)))
    (l_law_instruction : K.lookup f_law_instruction = some ⟨oc_law_instruction, od_law_instruction, .func (PySem.W.fnOf "_law_instruction" "_law_instruction" (defArgs s_law_instruction) (defBody s_law_instruction) (defScope s_law_instruction) .none kV_law_instruction dc_law_instruction pm_law_instruction an_law_instruction cd_law_instruction ct_law_instruction), sl_law_instruction⟩)
    (c_law_instruction : PySem.W.codeIn K cd_law_instruction "_law_instruction" = true)
    (k_law_instruction : PySem.W.keepIn K (.ref f_law_instruction) = true)
    {f_law_encoded : Addr} {oc_law_encoded : Value} {od_law_encoded an_law_encoded : Option Addr} {sl_law_encoded : Array (Option Value)} {kV_law_encoded dc_law_encoded pm_law_encoded cd_law_encoded ct_law_encoded : Value}
    (a_law_encoded : PySem.W.nsIn K mainGlobals "_law_encoded" = some (some (.ref f_law_encoded)))
    (l_law_encoded : K.lookup f_law_encoded = some ⟨oc_law_encoded, od_law_encoded, .func (PySem.W.fnOf "_law_encoded" "_law_encoded" (defArgs s_law_encoded) (defBody s_law_encoded) (defScope s_law_encoded) .none kV_law_encoded dc_law_encoded pm_law_encoded an_law_encoded cd_law_encoded ct_law_encoded), sl_law_encoded⟩)
    (c_law_encoded : PySem.W.codeIn K cd_law_encoded "_law_encoded" = true)
    (k_law_encoded : PySem.W.keepIn K (.ref f_law_encoded) = true)
    {f_law_between : Addr} {oc_law_between : Value} {od_law_between an_law_between : Option Addr} {sl_law_between : Array (Option Value)} {kV_law_between dc_law_between pm_law_between cd_law_between ct_law_between : Value}
    (a_law_between : PySem.W.nsIn K mainGlobals "_law_between" = some (some (.ref f_law_between)))
    (l_law_between : K.lookup f_law_between = some ⟨oc_law_between, od_law_between, .func (PySem.W.fnOf "_law_between" "_law_between" (defArgs s_law_between) (defBody s_law_between) (defScope s_law_between) .none kV_law_between dc_law_between pm_law_between an_law_between cd_law_between ct_law_between), sl_law_between⟩)
    (c_law_between : PySem.W.codeIn K cd_law_between "_law_between" = true)
    (k_law_between : PySem.W.keepIn K (.ref f_law_between) = true)
    {f_law_decoded : Addr} {oc_law_decoded : Value} {od_law_decoded an_law_decoded : Option Addr} {sl_law_decoded : Array (Option Value)} {kV_law_decoded dc_law_decoded pm_law_decoded cd_law_decoded ct_law_decoded : Value}
    (a_law_decoded : PySem.W.nsIn K mainGlobals "_law_decoded" = some (some (.ref f_law_decoded)))
    (l_law_decoded : K.lookup f_law_decoded = some ⟨oc_law_decoded, od_law_decoded, .func (PySem.W.fnOf "_law_decoded" "_law_decoded" (defArgs s_law_decoded) (defBody s_law_decoded) (defScope s_law_decoded) .none kV_law_decoded dc_law_decoded pm_law_decoded an_law_decoded cd_law_decoded ct_law_decoded), sl_law_decoded⟩)
    (c_law_decoded : PySem.W.codeIn K cd_law_decoded "_law_decoded" = true)
    (k_law_decoded : PySem.W.keepIn K (.ref f_law_decoded) = true)
    {f_law : Addr} {oc_law : Value} {od_law an_law : Option Addr} {sl_law : Array (Option Value)} {kV_law dc_law pm_law cd_law ct_law : Value}
    (a_law : PySem.W.nsIn K mainGlobals "law" = some (some (.ref f_law)))
    (l_law : K.lookup f_law = some ⟨oc_law, od_law, .func (PySem.W.fnOf "law" "law" (defArgs s_law) (defBody s_law) (defScope s_law) .none kV_law dc_law pm_law an_law cd_law ct_law), sl_law⟩)
    (c_law : PySem.W.codeIn K cd_law "law" = true)
    (k_law : PySem.W.keepIn K (.ref f_law) = true)
    {c_BAD : Addr} {o_BAD : Obj} (a_BAD : PySem.W.nsIn K mainGlobals "BAD" = some (some (.ref c_BAD))) (l_BAD : K.lookup c_BAD = some o_BAD) (q_BAD : IsTupOf o_BAD [.str "bad"])
    (dn_BAD : o_BAD.dict = none)
    {c_FIELDS : Addr} {es_FIELDS : Array DictEntry} {n_FIELDS : Nat} (a_FIELDS : PySem.W.nsIn K mainGlobals "FIELDS" = some (some (.ref c_FIELDS))) (l_FIELDS : K.lookup c_FIELDS = some ⟨.type "dict", none, .dict es_FIELDS n_FIELDS, #[]⟩) (lit_FIELDS : PySem.W.KeysLit w.params es_FIELDS.toList)
    {c_FIELDS_d : Addr} {o_FIELDS_d : Obj} (v_FIELDS_d : PySem.W.nsIn K c_FIELDS "d" = some (some (.ref c_FIELDS_d))) (l_FIELDS_d : K.lookup c_FIELDS_d = some o_FIELDS_d) (q_FIELDS_d : IsTupOf o_FIELDS_d [.int (21), .int (5), .int (0), .int (31)])
    {c_FIELDS_a : Addr} {o_FIELDS_a : Obj} (v_FIELDS_a : PySem.W.nsIn K c_FIELDS "a" = some (some (.ref c_FIELDS_a))) (l_FIELDS_a : K.lookup c_FIELDS_a = some o_FIELDS_a) (q_FIELDS_a : IsTupOf o_FIELDS_a [.int (16), .int (5), .int (0), .int (31)])
    {c_FIELDS_reg : Addr} {o_FIELDS_reg : Obj} (v_FIELDS_reg : PySem.W.nsIn K c_FIELDS "reg" = some (some (.ref c_FIELDS_reg))) (l_FIELDS_reg : K.lookup c_FIELDS_reg = some o_FIELDS_reg) (q_FIELDS_reg : IsTupOf o_FIELDS_reg [.int (0), .int (15), .int (0), .int (31)])
    {c_FIELDS_int : Addr} {o_FIELDS_int : Obj} (v_FIELDS_int : PySem.W.nsIn K c_FIELDS "int" = some (some (.ref c_FIELDS_int))) (l_FIELDS_int : K.lookup c_FIELDS_int = some o_FIELDS_int) (q_FIELDS_int : IsTupOf o_FIELDS_int [.int (0), .int (15), .int (-16384), .int (16383)])
    {c_FIELDS_part : Addr} {o_FIELDS_part : Obj} (v_FIELDS_part : PySem.W.nsIn K c_FIELDS "part" = some (some (.ref c_FIELDS_part))) (l_FIELDS_part : K.lookup c_FIELDS_part = some o_FIELDS_part) (q_FIELDS_part : IsTupOf o_FIELDS_part [.int (0), .int (15), .int (0), .int (2047)])
    {c_FIELDS_far : Addr} {o_FIELDS_far : Obj} (v_FIELDS_far : PySem.W.nsIn K c_FIELDS "far" = some (some (.ref c_FIELDS_far))) (l_FIELDS_far : K.lookup c_FIELDS_far = some o_FIELDS_far) (q_FIELDS_far : IsTupOf o_FIELDS_far [.int (0), .int (21), .int (-1048576), .int (1048575)])
    {c_FIELDS_distance : Addr} {o_FIELDS_distance : Obj} (v_FIELDS_distance : PySem.W.nsIn K c_FIELDS "distance" = some (some (.ref c_FIELDS_distance))) (l_FIELDS_distance : K.lookup c_FIELDS_distance = some o_FIELDS_distance) (q_FIELDS_distance : IsTupOf o_FIELDS_distance [.int (0), .int (26), .int (-33554432), .int (33554431)])
    {c_FIELDS_number : Addr} {o_FIELDS_number : Obj} (v_FIELDS_number : PySem.W.nsIn K c_FIELDS "number" = some (some (.ref c_FIELDS_number))) (l_FIELDS_number : K.lookup c_FIELDS_number = some o_FIELDS_number) (q_FIELDS_number : IsTupOf o_FIELDS_number [.int (0), .int (26), .int (0), .int (67108863)])
    {t_FLAG : Tok} (a_FLAG : PySem.W.nsIn K mainGlobals "FLAG" = some (some (.int (32768) t_FLAG)))
    {c_FORMS : Addr} {es_FORMS : Array DictEntry} {n_FORMS : Nat} (a_FORMS : PySem.W.nsIn K mainGlobals "FORMS" = some (some (.ref c_FORMS))) (l_FORMS : K.lookup c_FORMS = some ⟨.type "dict", none, .dict es_FORMS n_FORMS, #[]⟩) (lit_FORMS : PySem.W.KeysLit w.params es_FORMS.toList)
    {c_FORMS_halt : Addr} {o_FORMS_halt : Obj} (v_FORMS_halt : PySem.W.nsIn K c_FORMS "halt" = some (some (.ref c_FORMS_halt))) (l_FORMS_halt : K.lookup c_FORMS_halt = some o_FORMS_halt) (q_FORMS_halt : IsTupOf o_FORMS_halt [])
    {c_FORMS_add : Addr} {o_FORMS_add : Obj} (v_FORMS_add : PySem.W.nsIn K c_FORMS "add" = some (some (.ref c_FORMS_add))) (l_FORMS_add : K.lookup c_FORMS_add = some o_FORMS_add) (q_FORMS_add : IsTupOf o_FORMS_add [.str "d", .str "a", .str "source"])
    {c_FORMS_sub : Addr} {o_FORMS_sub : Obj} (v_FORMS_sub : PySem.W.nsIn K c_FORMS "sub" = some (some (.ref c_FORMS_sub))) (l_FORMS_sub : K.lookup c_FORMS_sub = some o_FORMS_sub) (q_FORMS_sub : IsTupOf o_FORMS_sub [.str "d", .str "a", .str "source"])
    {c_FORMS_mul : Addr} {o_FORMS_mul : Obj} (v_FORMS_mul : PySem.W.nsIn K c_FORMS "mul" = some (some (.ref c_FORMS_mul))) (l_FORMS_mul : K.lookup c_FORMS_mul = some o_FORMS_mul) (q_FORMS_mul : IsTupOf o_FORMS_mul [.str "d", .str "a", .str "source"])
    {c_FORMS_div : Addr} {o_FORMS_div : Obj} (v_FORMS_div : PySem.W.nsIn K c_FORMS "div" = some (some (.ref c_FORMS_div))) (l_FORMS_div : K.lookup c_FORMS_div = some o_FORMS_div) (q_FORMS_div : IsTupOf o_FORMS_div [.str "d", .str "a", .str "source"])
    {c_FORMS_mod : Addr} {o_FORMS_mod : Obj} (v_FORMS_mod : PySem.W.nsIn K c_FORMS "mod" = some (some (.ref c_FORMS_mod))) (l_FORMS_mod : K.lookup c_FORMS_mod = some o_FORMS_mod) (q_FORMS_mod : IsTupOf o_FORMS_mod [.str "d", .str "a", .str "source"])
    {c_FORMS_rem : Addr} {o_FORMS_rem : Obj} (v_FORMS_rem : PySem.W.nsIn K c_FORMS "rem" = some (some (.ref c_FORMS_rem))) (l_FORMS_rem : K.lookup c_FORMS_rem = some o_FORMS_rem) (q_FORMS_rem : IsTupOf o_FORMS_rem [.str "d", .str "a", .str "source"])
    {c_FORMS_less : Addr} {o_FORMS_less : Obj} (v_FORMS_less : PySem.W.nsIn K c_FORMS "less" = some (some (.ref c_FORMS_less))) (l_FORMS_less : K.lookup c_FORMS_less = some o_FORMS_less) (q_FORMS_less : IsTupOf o_FORMS_less [.str "d", .str "a", .str "source"])
    {c_FORMS_equal : Addr} {o_FORMS_equal : Obj} (v_FORMS_equal : PySem.W.nsIn K c_FORMS "equal" = some (some (.ref c_FORMS_equal))) (l_FORMS_equal : K.lookup c_FORMS_equal = some o_FORMS_equal) (q_FORMS_equal : IsTupOf o_FORMS_equal [.str "d", .str "a", .str "source"])
    {c_FORMS_high : Addr} {o_FORMS_high : Obj} (v_FORMS_high : PySem.W.nsIn K c_FORMS "high" = some (some (.ref c_FORMS_high))) (l_FORMS_high : K.lookup c_FORMS_high = some o_FORMS_high) (q_FORMS_high : IsTupOf o_FORMS_high [.str "d", .str "far"])
    {c_FORMS_low : Addr} {o_FORMS_low : Obj} (v_FORMS_low : PySem.W.nsIn K c_FORMS "low" = some (some (.ref c_FORMS_low))) (l_FORMS_low : K.lookup c_FORMS_low = some o_FORMS_low) (q_FORMS_low : IsTupOf o_FORMS_low [.str "d", .str "a", .str "part"])
    {c_FORMS_load : Addr} {o_FORMS_load : Obj} (v_FORMS_load : PySem.W.nsIn K c_FORMS "load" = some (some (.ref c_FORMS_load))) (l_FORMS_load : K.lookup c_FORMS_load = some o_FORMS_load) (q_FORMS_load : IsTupOf o_FORMS_load [.str "d", .str "a", .str "source"])
    {c_FORMS_store : Addr} {o_FORMS_store : Obj} (v_FORMS_store : PySem.W.nsIn K c_FORMS "store" = some (some (.ref c_FORMS_store))) (l_FORMS_store : K.lookup c_FORMS_store = some o_FORMS_store) (q_FORMS_store : IsTupOf o_FORMS_store [.str "d", .str "a", .str "source"])
    {c_FORMS_jump : Addr} {o_FORMS_jump : Obj} (v_FORMS_jump : PySem.W.nsIn K c_FORMS "jump" = some (some (.ref c_FORMS_jump))) (l_FORMS_jump : K.lookup c_FORMS_jump = some o_FORMS_jump) (q_FORMS_jump : IsTupOf o_FORMS_jump [.str "distance"])
    {c_FORMS_branch : Addr} {o_FORMS_branch : Obj} (v_FORMS_branch : PySem.W.nsIn K c_FORMS "branch" = some (some (.ref c_FORMS_branch))) (l_FORMS_branch : K.lookup c_FORMS_branch = some o_FORMS_branch) (q_FORMS_branch : IsTupOf o_FORMS_branch [.str "d", .str "far"])
    {c_FORMS_call : Addr} {o_FORMS_call : Obj} (v_FORMS_call : PySem.W.nsIn K c_FORMS "call" = some (some (.ref c_FORMS_call))) (l_FORMS_call : K.lookup c_FORMS_call = some o_FORMS_call) (q_FORMS_call : IsTupOf o_FORMS_call [.str "number"])
    {c_FORMS_save : Addr} {o_FORMS_save : Obj} (v_FORMS_save : PySem.W.nsIn K c_FORMS "save" = some (some (.ref c_FORMS_save))) (l_FORMS_save : K.lookup c_FORMS_save = some o_FORMS_save) (q_FORMS_save : IsTupOf o_FORMS_save [.str "d", .str "a", .str "source"])
    {c_FORMS_restore : Addr} {o_FORMS_restore : Obj} (v_FORMS_restore : PySem.W.nsIn K c_FORMS "restore" = some (some (.ref c_FORMS_restore))) (l_FORMS_restore : K.lookup c_FORMS_restore = some o_FORMS_restore) (q_FORMS_restore : IsTupOf o_FORMS_restore [])
    {c_FORMS_back : Addr} {o_FORMS_back : Obj} (v_FORMS_back : PySem.W.nsIn K c_FORMS "back" = some (some (.ref c_FORMS_back))) (l_FORMS_back : K.lookup c_FORMS_back = some o_FORMS_back) (q_FORMS_back : IsTupOf o_FORMS_back [])
    {c_FORMS_raise : Addr} {o_FORMS_raise : Obj} (v_FORMS_raise : PySem.W.nsIn K c_FORMS "raise" = some (some (.ref c_FORMS_raise))) (l_FORMS_raise : K.lookup c_FORMS_raise = some o_FORMS_raise) (q_FORMS_raise : IsTupOf o_FORMS_raise [.str "number"])
    {c_FORMS_again : Addr} {o_FORMS_again : Obj} (v_FORMS_again : PySem.W.nsIn K c_FORMS "again" = some (some (.ref c_FORMS_again))) (l_FORMS_again : K.lookup c_FORMS_again = some o_FORMS_again) (q_FORMS_again : IsTupOf o_FORMS_again [.str "a", .str "source"])
    {c_FORMS_tick : Addr} {o_FORMS_tick : Obj} (v_FORMS_tick : PySem.W.nsIn K c_FORMS "tick" = some (some (.ref c_FORMS_tick))) (l_FORMS_tick : K.lookup c_FORMS_tick = some o_FORMS_tick) (q_FORMS_tick : IsTupOf o_FORMS_tick [])
    {c_FORMS_put : Addr} {o_FORMS_put : Obj} (v_FORMS_put : PySem.W.nsIn K c_FORMS "put" = some (some (.ref c_FORMS_put))) (l_FORMS_put : K.lookup c_FORMS_put = some o_FORMS_put) (q_FORMS_put : IsTupOf o_FORMS_put [.str "source"])
    {c_FORMS_get : Addr} {o_FORMS_get : Obj} (v_FORMS_get : PySem.W.nsIn K c_FORMS "get" = some (some (.ref c_FORMS_get))) (l_FORMS_get : K.lookup c_FORMS_get = some o_FORMS_get) (q_FORMS_get : IsTupOf o_FORMS_get [.str "d"])
    {c_FORMS_below : Addr} {o_FORMS_below : Obj} (v_FORMS_below : PySem.W.nsIn K c_FORMS "below" = some (some (.ref c_FORMS_below))) (l_FORMS_below : K.lookup c_FORMS_below = some o_FORMS_below) (q_FORMS_below : IsTupOf o_FORMS_below [.str "a", .str "source"])
    {c_FORMS_above : Addr} {o_FORMS_above : Obj} (v_FORMS_above : PySem.W.nsIn K c_FORMS "above" = some (some (.ref c_FORMS_above))) (l_FORMS_above : K.lookup c_FORMS_above = some o_FORMS_above) (q_FORMS_above : IsTupOf o_FORMS_above [.str "a", .str "source"])
    {c_FORMS_bar : Addr} {o_FORMS_bar : Obj} (v_FORMS_bar : PySem.W.nsIn K c_FORMS "bar" = some (some (.ref c_FORMS_bar))) (l_FORMS_bar : K.lookup c_FORMS_bar = some o_FORMS_bar) (q_FORMS_bar : IsTupOf o_FORMS_bar [.str "d"])
    {c_FORMS_setbar : Addr} {o_FORMS_setbar : Obj} (v_FORMS_setbar : PySem.W.nsIn K c_FORMS "setbar" = some (some (.ref c_FORMS_setbar))) (l_FORMS_setbar : K.lookup c_FORMS_setbar = some o_FORMS_setbar) (q_FORMS_setbar : IsTupOf o_FORMS_setbar [.str "source"])
    {c_FORMS_retry : Addr} {o_FORMS_retry : Obj} (v_FORMS_retry : PySem.W.nsIn K c_FORMS "retry" = some (some (.ref c_FORMS_retry))) (l_FORMS_retry : K.lookup c_FORMS_retry = some o_FORMS_retry) (q_FORMS_retry : IsTupOf o_FORMS_retry [])
    {c_NAMES : Addr} {o_NAMES : Obj} (a_NAMES : PySem.W.nsIn K mainGlobals "NAMES" = some (some (.ref c_NAMES))) (l_NAMES : K.lookup c_NAMES = some o_NAMES) (q_NAMES : IsTupOf o_NAMES [.str "halt", .str "add", .str "sub", .str "mul", .str "div", .str "mod", .str "rem", .str "less", .str "equal", .str "high", .str "low", .str "load", .str "store", .str "jump", .str "branch", .str "call", .str "save", .str "restore", .str "back", .str "raise", .str "again", .str "tick", .str "put", .str "get", .str "below", .str "above", .str "bar", .str "setbar", .str "retry"])
    (dn_NAMES : o_NAMES.dict = none)
    {t_NAME_SHIFT : Tok} (a_NAME_SHIFT : PySem.W.nsIn K mainGlobals "NAME_SHIFT" = some (some (.int (26) t_NAME_SHIFT)))
    (z_abs : PySem.W.nsIn K mainGlobals "abs" = some none)
    (z_all : PySem.W.nsIn K mainGlobals "all" = some none)
    (z_bool : PySem.W.nsIn K mainGlobals "bool" = some none)
    (z_int : PySem.W.nsIn K mainGlobals "int" = some none)
    (z_isinstance : PySem.W.nsIn K mainGlobals "isinstance" = some none)
    (z_len : PySem.W.nsIn K mainGlobals "len" = some none)
    (z_list : PySem.W.nsIn K mainGlobals "list" = some none)
    (z_max : PySem.W.nsIn K mainGlobals "max" = some none)
    (z_min : PySem.W.nsIn K mainGlobals "min" = some none)
    (z_range : PySem.W.nsIn K mainGlobals "range" = some none)
    (z_str : PySem.W.nsIn K mainGlobals "str" = some none)
    (z_sum : PySem.W.nsIn K mainGlobals "sum" = some none)
    (z_tuple : PySem.W.nsIn K mainGlobals "tuple" = some none)
    (z_zip : PySem.W.nsIn K mainGlobals "zip" = some none) :
    ∃ fd : FuncData, (∀ (s : Shared) (v : Value), BindsTo s fd ⟨[v], []⟩ [("script", v)]) ∧ ∀ base : Heap, K.In base → base.Ns mainGlobals mg → FnOk l.prog w K mg base CX0 9 fa fd ["script"] (spLaw K) := by
  have e := hfa.symm.trans (PySem.W.mg_of X G a_law)
  cases e
  let a : Ad := { f_encode := f_encode, d_encode := PySem.W.fnOf "encode" "encode" (defArgs s_encode) (defBody s_encode) (defScope s_encode) .none kV_encode dc_encode pm_encode an_encode cd_encode ct_encode, f_bits_of := f_bits_of, d_bits_of := PySem.W.fnOf "_bits_of" "_bits_of" (defArgs s_bits_of) (defBody s_bits_of) (defScope s_bits_of) .none kV_bits_of dc_bits_of pm_bits_of an_bits_of cd_bits_of ct_bits_of, f_decode := f_decode, d_decode := PySem.W.fnOf "decode" "decode" (defArgs s_decode) (defBody s_decode) (defScope s_decode) .none kV_decode dc_decode pm_decode an_decode cd_decode ct_decode, f_part_of := f_part_of, d_part_of := PySem.W.fnOf "_part_of" "_part_of" (defArgs s_part_of) (defBody s_part_of) (defScope s_part_of) .none kV_part_of dc_part_of pm_part_of an_part_of cd_part_of ct_part_of, f_law_mixed := f_law_mixed, d_law_mixed := PySem.W.fnOf "_law_mixed" "_law_mixed" (defArgs s_law_mixed) (defBody s_law_mixed) (defScope s_law_mixed) .none kV_law_mixed dc_law_mixed pm_law_mixed an_law_mixed cd_law_mixed ct_law_mixed, f_law_state := f_law_state, d_law_state := PySem.W.fnOf "_law_state" "_law_state" (defArgs s_law_state) (defBody s_law_state) (defScope s_law_state) .none kV_law_state dc_law_state pm_law_state an_law_state cd_law_state ct_law_state, f_law_draw := f_law_draw, d_law_draw := PySem.W.fnOf "_law_draw" "_law_draw" (defArgs s_law_draw) (defBody s_law_draw) (defScope s_law_draw) .none kV_law_draw dc_law_draw pm_law_draw an_law_draw cd_law_draw ct_law_draw, f_law_same := f_law_same, d_law_same := PySem.W.fnOf "_law_same" "_law_same" (defArgs s_law_same) (defBody s_law_same) (defScope s_law_same) .none kV_law_same dc_law_same pm_law_same an_law_same cd_law_same ct_law_same, f_law_names := f_law_names, d_law_names := PySem.W.fnOf "_law_names" "_law_names" (defArgs s_law_names) (defBody s_law_names) (defScope s_law_names) .none kV_law_names dc_law_names pm_law_names an_law_names cd_law_names ct_law_names, f_law_ranges := f_law_ranges, d_law_ranges := PySem.W.fnOf "_law_ranges" "_law_ranges" (defArgs s_law_ranges) (defBody s_law_ranges) (defScope s_law_ranges) .none kV_law_ranges dc_law_ranges pm_law_ranges an_law_ranges cd_law_ranges ct_law_ranges, f_law_instruction := f_law_instruction, d_law_instruction := PySem.W.fnOf "_law_instruction" "_law_instruction" (defArgs s_law_instruction) (defBody s_law_instruction) (defScope s_law_instruction) .none kV_law_instruction dc_law_instruction pm_law_instruction an_law_instruction cd_law_instruction ct_law_instruction, f_law_encoded := f_law_encoded, d_law_encoded := PySem.W.fnOf "_law_encoded" "_law_encoded" (defArgs s_law_encoded) (defBody s_law_encoded) (defScope s_law_encoded) .none kV_law_encoded dc_law_encoded pm_law_encoded an_law_encoded cd_law_encoded ct_law_encoded, f_law_between := f_law_between, d_law_between := PySem.W.fnOf "_law_between" "_law_between" (defArgs s_law_between) (defBody s_law_between) (defScope s_law_between) .none kV_law_between dc_law_between pm_law_between an_law_between cd_law_between ct_law_between, f_law_decoded := f_law_decoded, d_law_decoded := PySem.W.fnOf "_law_decoded" "_law_decoded" (defArgs s_law_decoded) (defBody s_law_decoded) (defScope s_law_decoded) .none kV_law_decoded dc_law_decoded pm_law_decoded an_law_decoded cd_law_decoded ct_law_decoded, f_law := fa, d_law := PySem.W.fnOf "law" "law" (defArgs s_law) (defBody s_law) (defScope s_law) .none kV_law dc_law pm_law an_law cd_law ct_law, c_BAD := c_BAD, c_FIELDS := c_FIELDS, c_FIELDS_d := c_FIELDS_d, c_FIELDS_a := c_FIELDS_a, c_FIELDS_reg := c_FIELDS_reg, c_FIELDS_int := c_FIELDS_int, c_FIELDS_part := c_FIELDS_part, c_FIELDS_far := c_FIELDS_far, c_FIELDS_distance := c_FIELDS_distance, c_FIELDS_number := c_FIELDS_number, t_FLAG := t_FLAG, c_FORMS := c_FORMS, c_FORMS_halt := c_FORMS_halt, c_FORMS_add := c_FORMS_add, c_FORMS_sub := c_FORMS_sub, c_FORMS_mul := c_FORMS_mul, c_FORMS_div := c_FORMS_div, c_FORMS_mod := c_FORMS_mod, c_FORMS_rem := c_FORMS_rem, c_FORMS_less := c_FORMS_less, c_FORMS_equal := c_FORMS_equal, c_FORMS_high := c_FORMS_high, c_FORMS_low := c_FORMS_low, c_FORMS_load := c_FORMS_load, c_FORMS_store := c_FORMS_store, c_FORMS_jump := c_FORMS_jump, c_FORMS_branch := c_FORMS_branch, c_FORMS_call := c_FORMS_call, c_FORMS_save := c_FORMS_save, c_FORMS_restore := c_FORMS_restore, c_FORMS_back := c_FORMS_back, c_FORMS_raise := c_FORMS_raise, c_FORMS_again := c_FORMS_again, c_FORMS_tick := c_FORMS_tick, c_FORMS_put := c_FORMS_put, c_FORMS_get := c_FORMS_get, c_FORMS_below := c_FORMS_below, c_FORMS_above := c_FORMS_above, c_FORMS_bar := c_FORMS_bar, c_FORMS_setbar := c_FORMS_setbar, c_FORMS_retry := c_FORMS_retry, c_NAMES := c_NAMES, t_NAME_SHIFT := t_NAME_SHIFT, C_AdaError := C_AdaError, C_ImageError := C_ImageError }
  have T : Txt w K mg a := {
    g_encode := PySem.W.mg_of X G a_encode,
    F_encode := fun_mk (st := s_encode) l_encode c_encode k_encode,
    k_encode := k_encode,
    bd_encode := (fun_mk (st := s_encode) l_encode c_encode k_encode).binds (ps := ["instruction"]) fun _ _ _ _ _ _ us hl => match us, hl with | [_], _ => rfl,
    g__bits_of := PySem.W.mg_of X G a_bits_of,
    F__bits_of := fun_mk (st := s_bits_of) l_bits_of c_bits_of k_bits_of,
    k__bits_of := k_bits_of,
    bd__bits_of := (fun_mk (st := s_bits_of) l_bits_of c_bits_of k_bits_of).binds (ps := ["field", "part"]) fun _ _ _ _ _ _ us hl => match us, hl with | [_, _], _ => rfl,
    g_decode := PySem.W.mg_of X G a_decode,
    F_decode := fun_mk (st := s_decode) l_decode c_decode k_decode,
    k_decode := k_decode,
    bd_decode := (fun_mk (st := s_decode) l_decode c_decode k_decode).binds (ps := ["word"]) fun _ _ _ _ _ _ us hl => match us, hl with | [_], _ => rfl,
    g__part_of := PySem.W.mg_of X G a_part_of,
    F__part_of := fun_mk (st := s_part_of) l_part_of c_part_of k_part_of,
    k__part_of := k_part_of,
    bd__part_of := (fun_mk (st := s_part_of) l_part_of c_part_of k_part_of).binds (ps := ["field", "word"]) fun _ _ _ _ _ _ us hl => match us, hl with | [_, _], _ => rfl,
    g__law_mixed := PySem.W.mg_of X G a_law_mixed,
    F__law_mixed := fun_mk (st := s_law_mixed) l_law_mixed c_law_mixed k_law_mixed,
    k__law_mixed := k_law_mixed,
    bd__law_mixed := (fun_mk (st := s_law_mixed) l_law_mixed c_law_mixed k_law_mixed).binds (ps := ["number", "count"]) fun _ _ _ _ _ _ us hl => match us, hl with | [_, _], _ => rfl,
    g__law_state := PySem.W.mg_of X G a_law_state,
    F__law_state := fun_mk (st := s_law_state) l_law_state c_law_state k_law_state,
    k__law_state := k_law_state,
    bd__law_state := (fun_mk (st := s_law_state) l_law_state c_law_state k_law_state).binds (ps := ["script", "budget"]) fun _ _ _ _ _ _ us hl => match us, hl with | [_, _], _ => rfl,
    g__law_draw := PySem.W.mg_of X G a_law_draw,
    F__law_draw := fun_mk (st := s_law_draw) l_law_draw c_law_draw k_law_draw,
    k__law_draw := k_law_draw,
    bd__law_draw := (fun_mk (st := s_law_draw) l_law_draw c_law_draw k_law_draw).binds (ps := ["state", "many"]) fun _ _ _ _ _ _ us hl => match us, hl with | [_, _], _ => rfl,
    g__law_same := PySem.W.mg_of X G a_law_same,
    F__law_same := fun_mk (st := s_law_same) l_law_same c_law_same k_law_same,
    k__law_same := k_law_same,
    bd__law_same := (fun_mk (st := s_law_same) l_law_same c_law_same k_law_same).binds (ps := ["actual", "due"]) fun _ _ _ _ _ _ us hl => match us, hl with | [_, _], _ => rfl,
    g__law_names := PySem.W.mg_of X G a_law_names,
    F__law_names := fun_mk (st := s_law_names) l_law_names c_law_names k_law_names,
    k__law_names := k_law_names,
    bd__law_names := (fun_mk (st := s_law_names) l_law_names c_law_names k_law_names).binds (ps := []) fun _ _ _ _ _ _ us hl => match us, hl with | [], _ => rfl,
    g__law_ranges := PySem.W.mg_of X G a_law_ranges,
    F__law_ranges := fun_mk (st := s_law_ranges) l_law_ranges c_law_ranges k_law_ranges,
    k__law_ranges := k_law_ranges,
    bd__law_ranges := (fun_mk (st := s_law_ranges) l_law_ranges c_law_ranges k_law_ranges).binds (ps := ["name", "kind"]) fun _ _ _ _ _ _ us hl => match us, hl with | [_, _], _ => rfl,
    g__law_instruction := PySem.W.mg_of X G a_law_instruction,
    F__law_instruction := fun_mk (st := s_law_instruction) l_law_instruction c_law_instruction k_law_instruction,
    k__law_instruction := k_law_instruction,
    bd__law_instruction := (fun_mk (st := s_law_instruction) l_law_instruction c_law_instruction k_law_instruction).binds (ps := ["name", "kind", "numbers"]) fun _ _ _ _ _ _ us hl => match us, hl with | [_, _, _], _ => rfl,
    g__law_encoded := PySem.W.mg_of X G a_law_encoded,
    F__law_encoded := fun_mk (st := s_law_encoded) l_law_encoded c_law_encoded k_law_encoded,
    k__law_encoded := k_law_encoded,
    bd__law_encoded := (fun_mk (st := s_law_encoded) l_law_encoded c_law_encoded k_law_encoded).binds (ps := ["name", "kind", "numbers"]) fun _ _ _ _ _ _ us hl => match us, hl with | [_, _, _], _ => rfl,
    g__law_between := PySem.W.mg_of X G a_law_between,
    F__law_between := fun_mk (st := s_law_between) l_law_between c_law_between k_law_between,
    k__law_between := k_law_between,
    bd__law_between := (fun_mk (st := s_law_between) l_law_between c_law_between k_law_between).binds (ps := ["state", "low", "high"]) fun _ _ _ _ _ _ us hl => match us, hl with | [_, _, _], _ => rfl,
    g__law_decoded := PySem.W.mg_of X G a_law_decoded,
    F__law_decoded := fun_mk (st := s_law_decoded) l_law_decoded c_law_decoded k_law_decoded,
    k__law_decoded := k_law_decoded,
    bd__law_decoded := (fun_mk (st := s_law_decoded) l_law_decoded c_law_decoded k_law_decoded).binds (ps := ["word"]) fun _ _ _ _ _ _ us hl => match us, hl with | [_], _ => rfl,
    g_law := PySem.W.mg_of X G a_law,
    F_law := fun_mk (st := s_law) l_law c_law k_law,
    k_law := k_law,
    bd_law := (fun_mk (st := s_law) l_law c_law k_law).binds (ps := ["script"]) fun _ _ _ _ _ _ us hl => match us, hl with | [_], _ => rfl,
    g_BAD := PySem.W.mg_of X G a_BAD,
    q_BAD := fun H => sqT_of l_BAD q_BAD,
    y_BAD := ⟨_, l_BAD, q_BAD.1, dn_BAD⟩,
    g_FIELDS := PySem.W.mg_of X G a_FIELDS,
    kd_FIELDS_d := ⟨_, _, _, l_FIELDS, lit_FIELDS, v_FIELDS_d, rfl⟩,
    q_FIELDS_d := fun H => sqT_of l_FIELDS_d q_FIELDS_d,
    kd_FIELDS_a := ⟨_, _, _, l_FIELDS, lit_FIELDS, v_FIELDS_a, rfl⟩,
    q_FIELDS_a := fun H => sqT_of l_FIELDS_a q_FIELDS_a,
    kd_FIELDS_reg := ⟨_, _, _, l_FIELDS, lit_FIELDS, v_FIELDS_reg, rfl⟩,
    q_FIELDS_reg := fun H => sqT_of l_FIELDS_reg q_FIELDS_reg,
    kd_FIELDS_int := ⟨_, _, _, l_FIELDS, lit_FIELDS, v_FIELDS_int, rfl⟩,
    q_FIELDS_int := fun H => sqT_of l_FIELDS_int q_FIELDS_int,
    kd_FIELDS_part := ⟨_, _, _, l_FIELDS, lit_FIELDS, v_FIELDS_part, rfl⟩,
    q_FIELDS_part := fun H => sqT_of l_FIELDS_part q_FIELDS_part,
    kd_FIELDS_far := ⟨_, _, _, l_FIELDS, lit_FIELDS, v_FIELDS_far, rfl⟩,
    q_FIELDS_far := fun H => sqT_of l_FIELDS_far q_FIELDS_far,
    kd_FIELDS_distance := ⟨_, _, _, l_FIELDS, lit_FIELDS, v_FIELDS_distance, rfl⟩,
    q_FIELDS_distance := fun H => sqT_of l_FIELDS_distance q_FIELDS_distance,
    kd_FIELDS_number := ⟨_, _, _, l_FIELDS, lit_FIELDS, v_FIELDS_number, rfl⟩,
    q_FIELDS_number := fun H => sqT_of l_FIELDS_number q_FIELDS_number,
    g_FLAG := PySem.W.mg_of X G a_FLAG,
    g_FORMS := PySem.W.mg_of X G a_FORMS,
    kd_FORMS_halt := ⟨_, _, _, l_FORMS, lit_FORMS, v_FORMS_halt, rfl⟩,
    q_FORMS_halt := fun H => sqT_of l_FORMS_halt q_FORMS_halt,
    kd_FORMS_add := ⟨_, _, _, l_FORMS, lit_FORMS, v_FORMS_add, rfl⟩,
    q_FORMS_add := fun H => sqT_of l_FORMS_add q_FORMS_add,
    kd_FORMS_sub := ⟨_, _, _, l_FORMS, lit_FORMS, v_FORMS_sub, rfl⟩,
    q_FORMS_sub := fun H => sqT_of l_FORMS_sub q_FORMS_sub,
    kd_FORMS_mul := ⟨_, _, _, l_FORMS, lit_FORMS, v_FORMS_mul, rfl⟩,
    q_FORMS_mul := fun H => sqT_of l_FORMS_mul q_FORMS_mul,
    kd_FORMS_div := ⟨_, _, _, l_FORMS, lit_FORMS, v_FORMS_div, rfl⟩,
    q_FORMS_div := fun H => sqT_of l_FORMS_div q_FORMS_div,
    kd_FORMS_mod := ⟨_, _, _, l_FORMS, lit_FORMS, v_FORMS_mod, rfl⟩,
    q_FORMS_mod := fun H => sqT_of l_FORMS_mod q_FORMS_mod,
    kd_FORMS_rem := ⟨_, _, _, l_FORMS, lit_FORMS, v_FORMS_rem, rfl⟩,
    q_FORMS_rem := fun H => sqT_of l_FORMS_rem q_FORMS_rem,
    kd_FORMS_less := ⟨_, _, _, l_FORMS, lit_FORMS, v_FORMS_less, rfl⟩,
    q_FORMS_less := fun H => sqT_of l_FORMS_less q_FORMS_less,
    kd_FORMS_equal := ⟨_, _, _, l_FORMS, lit_FORMS, v_FORMS_equal, rfl⟩,
    q_FORMS_equal := fun H => sqT_of l_FORMS_equal q_FORMS_equal,
    kd_FORMS_high := ⟨_, _, _, l_FORMS, lit_FORMS, v_FORMS_high, rfl⟩,
    q_FORMS_high := fun H => sqT_of l_FORMS_high q_FORMS_high,
    kd_FORMS_low := ⟨_, _, _, l_FORMS, lit_FORMS, v_FORMS_low, rfl⟩,
    q_FORMS_low := fun H => sqT_of l_FORMS_low q_FORMS_low,
    kd_FORMS_load := ⟨_, _, _, l_FORMS, lit_FORMS, v_FORMS_load, rfl⟩,
    q_FORMS_load := fun H => sqT_of l_FORMS_load q_FORMS_load,
    kd_FORMS_store := ⟨_, _, _, l_FORMS, lit_FORMS, v_FORMS_store, rfl⟩,
    q_FORMS_store := fun H => sqT_of l_FORMS_store q_FORMS_store,
    kd_FORMS_jump := ⟨_, _, _, l_FORMS, lit_FORMS, v_FORMS_jump, rfl⟩,
    q_FORMS_jump := fun H => sqT_of l_FORMS_jump q_FORMS_jump,
    kd_FORMS_branch := ⟨_, _, _, l_FORMS, lit_FORMS, v_FORMS_branch, rfl⟩,
    q_FORMS_branch := fun H => sqT_of l_FORMS_branch q_FORMS_branch,
    kd_FORMS_call := ⟨_, _, _, l_FORMS, lit_FORMS, v_FORMS_call, rfl⟩,
    q_FORMS_call := fun H => sqT_of l_FORMS_call q_FORMS_call,
    kd_FORMS_save := ⟨_, _, _, l_FORMS, lit_FORMS, v_FORMS_save, rfl⟩,
    q_FORMS_save := fun H => sqT_of l_FORMS_save q_FORMS_save,
    kd_FORMS_restore := ⟨_, _, _, l_FORMS, lit_FORMS, v_FORMS_restore, rfl⟩,
    q_FORMS_restore := fun H => sqT_of l_FORMS_restore q_FORMS_restore,
    kd_FORMS_back := ⟨_, _, _, l_FORMS, lit_FORMS, v_FORMS_back, rfl⟩,
    q_FORMS_back := fun H => sqT_of l_FORMS_back q_FORMS_back,
    kd_FORMS_raise := ⟨_, _, _, l_FORMS, lit_FORMS, v_FORMS_raise, rfl⟩,
    q_FORMS_raise := fun H => sqT_of l_FORMS_raise q_FORMS_raise,
    kd_FORMS_again := ⟨_, _, _, l_FORMS, lit_FORMS, v_FORMS_again, rfl⟩,
    q_FORMS_again := fun H => sqT_of l_FORMS_again q_FORMS_again,
    kd_FORMS_tick := ⟨_, _, _, l_FORMS, lit_FORMS, v_FORMS_tick, rfl⟩,
    q_FORMS_tick := fun H => sqT_of l_FORMS_tick q_FORMS_tick,
    kd_FORMS_put := ⟨_, _, _, l_FORMS, lit_FORMS, v_FORMS_put, rfl⟩,
    q_FORMS_put := fun H => sqT_of l_FORMS_put q_FORMS_put,
    kd_FORMS_get := ⟨_, _, _, l_FORMS, lit_FORMS, v_FORMS_get, rfl⟩,
    q_FORMS_get := fun H => sqT_of l_FORMS_get q_FORMS_get,
    kd_FORMS_below := ⟨_, _, _, l_FORMS, lit_FORMS, v_FORMS_below, rfl⟩,
    q_FORMS_below := fun H => sqT_of l_FORMS_below q_FORMS_below,
    kd_FORMS_above := ⟨_, _, _, l_FORMS, lit_FORMS, v_FORMS_above, rfl⟩,
    q_FORMS_above := fun H => sqT_of l_FORMS_above q_FORMS_above,
    kd_FORMS_bar := ⟨_, _, _, l_FORMS, lit_FORMS, v_FORMS_bar, rfl⟩,
    q_FORMS_bar := fun H => sqT_of l_FORMS_bar q_FORMS_bar,
    kd_FORMS_setbar := ⟨_, _, _, l_FORMS, lit_FORMS, v_FORMS_setbar, rfl⟩,
    q_FORMS_setbar := fun H => sqT_of l_FORMS_setbar q_FORMS_setbar,
    kd_FORMS_retry := ⟨_, _, _, l_FORMS, lit_FORMS, v_FORMS_retry, rfl⟩,
    q_FORMS_retry := fun H => sqT_of l_FORMS_retry q_FORMS_retry,
    g_NAMES := PySem.W.mg_of X G a_NAMES,
    q_NAMES := fun H => sqT_of l_NAMES q_NAMES,
    y_NAMES := ⟨_, l_NAMES, q_NAMES.1, dn_NAMES⟩,
    g_NAME_SHIFT := PySem.W.mg_of X G a_NAME_SHIFT,
    b_abs := PySem.W.mg_none_of X G z_abs,
    b_all := PySem.W.mg_none_of X G z_all,
    b_bool := PySem.W.mg_none_of X G z_bool,
    b_int := PySem.W.mg_none_of X G z_int,
    b_isinstance := PySem.W.mg_none_of X G z_isinstance,
    b_len := PySem.W.mg_none_of X G z_len,
    b_list := PySem.W.mg_none_of X G z_list,
    b_max := PySem.W.mg_none_of X G z_max,
    b_min := PySem.W.mg_none_of X G z_min,
    b_range := PySem.W.mg_none_of X G z_range,
    b_str := PySem.W.mg_none_of X G z_str,
    b_sum := PySem.W.mg_none_of X G z_sum,
    b_tuple := PySem.W.mg_none_of X G z_tuple,
    b_zip := PySem.W.mg_none_of X G z_zip,
    g_AdaError := PySem.W.mg_of X G aC_AdaError,
    x_AdaError := x_AdaError,
    kC_AdaError := kC_AdaError,
    s1_AdaError := s1_AdaError,
    ty_AdaError := ty_AdaError,
    ic_AdaError := ic_AdaError,
    g_ImageError := PySem.W.mg_of X G aC_ImageError,
    x_ImageError := x_ImageError,
    kC_ImageError := kC_ImageError,
    s1_ImageError := s1_ImageError,
    ty_ImageError := ty_ImageError,
    ic_ImageError := ic_ImageError,
    e_ImageError_ImageError := exm_of s1_ImageError ic_ImageError ty_ImageError e_ImageError_ImageError }
  exact ⟨a.d_law, fun s v => .of_eq rfl, fun base _ _ => ok_law T⟩
theorem walk {l : PySem.W.OpenLaw} {q : Program} {loose : List Str} {XP : (Str → Option Value) → Heap → Prop} {YP : World → Heap → Prop} {d : DefRec} {K : Params → PySem.W.Frag} (hn : l.most = some 63) (hdf : d.params.defaults = [])
    (hY : ∀ (w : World) (h : Heap), YP w h → (K w.params).In h)
    (F : ∀ (w : World) (mg : Str → Option Value) (fa : Addr) (h : Heap), (K w.params).In h → h.Ns mainGlobals mg → mg d.name = some (.ref fa) →
      ∃ fd : FuncData, (∀ (s : Shared) (u : Value), BindsTo s fd ⟨[u], []⟩ [("script", u)]) ∧ ∀ base : Heap, (K w.params).In base → base.Ns mainGlobals mg → FnOk l.prog w (K w.params) mg base CX0 9 fa fd ["script"] (spLaw (K w.params))) :
    PySem.W.WalkO q loose XP YP l.row.toRowW d [] (fun f vs => PySem.call f vs) :=
  L2.walk_of (n := 63) (k := 9) (x := "script") (CX := fun _ => CX0) (sp := fun w => spLaw (K w.params)) hn (by decide) hdf ⟨rfl, by decide, by decide⟩ hY F (fun _ _ a ns hl _ hS => ⟨a, ns, rfl, hS, hl, fun _ => rfl⟩) fun _ _ _ _ _ z => z

end My
open PySem PySem.W PyProof.Rows
set_option maxRecDepth 100000 in
set_option maxHeartbeats 0 in
theorem PySem.Challenge.cw_windowada_k56_encode_and_decode_holds : PySem.Challenge.rw_windowada_k56_encode_and_decode.Holds := by
  w_on; o_law; k_head; (case hw => w_witness2)
  k_fill
  refine My.walk (l := PySem.Challenge.rw_windowada_k56_encode_and_decode) rfl rfl (fun w h Y => PySem.W.kIn_of Y) ?F
  case F =>
    intro w mg fa h KX G hmg
    refine' My.all_mk KX G hmg ?aC_AdaError ?x_AdaError ?kC_AdaError ?s1_AdaError ?ty_AdaError ?ic_AdaError ?aC_ImageError ?x_ImageError ?kC_ImageError ?s1_ImageError ?ty_ImageError ?ic_ImageError ?e_ImageError_ImageError ?a_encode ?l_encode ?c_encode ?k_encode ?a_bits_of ?l_bits_of ?c_bits_of ?k_bits_of ?a_decode ?l_decode ?c_decode ?k_decode ?a_part_of ?l_part_of ?c_part_of ?k_part_of ?a_law_mixed ?l_law_mixed ?c_law_mixed ?k_law_mixed ?a_law_state ?l_law_state ?c_law_state ?k_law_state ?a_law_draw ?l_law_draw ?c_law_draw ?k_law_draw ?a_law_same ?l_law_same ?c_law_same ?k_law_same ?a_law_names ?l_law_names ?c_law_names ?k_law_names ?a_law_ranges ?l_law_ranges ?c_law_ranges ?k_law_ranges ?a_law_instruction ?l_law_instruction ?c_law_instruction ?k_law_instruction ?a_law_encoded ?l_law_encoded ?c_law_encoded ?k_law_encoded ?a_law_between ?l_law_between ?c_law_between ?k_law_between ?a_law_decoded ?l_law_decoded ?c_law_decoded ?k_law_decoded ?a_law ?l_law ?c_law ?k_law ?a_BAD ?l_BAD ?q_BAD ?dn_BAD ?a_FIELDS ?l_FIELDS ?lit_FIELDS ?v_FIELDS_d ?l_FIELDS_d ?q_FIELDS_d ?v_FIELDS_a ?l_FIELDS_a ?q_FIELDS_a ?v_FIELDS_reg ?l_FIELDS_reg ?q_FIELDS_reg ?v_FIELDS_int ?l_FIELDS_int ?q_FIELDS_int ?v_FIELDS_part ?l_FIELDS_part ?q_FIELDS_part ?v_FIELDS_far ?l_FIELDS_far ?q_FIELDS_far ?v_FIELDS_distance ?l_FIELDS_distance ?q_FIELDS_distance ?v_FIELDS_number ?l_FIELDS_number ?q_FIELDS_number ?a_FLAG ?a_FORMS ?l_FORMS ?lit_FORMS ?v_FORMS_halt ?l_FORMS_halt ?q_FORMS_halt ?v_FORMS_add ?l_FORMS_add ?q_FORMS_add ?v_FORMS_sub ?l_FORMS_sub ?q_FORMS_sub ?v_FORMS_mul ?l_FORMS_mul ?q_FORMS_mul ?v_FORMS_div ?l_FORMS_div ?q_FORMS_div ?v_FORMS_mod ?l_FORMS_mod ?q_FORMS_mod ?v_FORMS_rem ?l_FORMS_rem ?q_FORMS_rem ?v_FORMS_less ?l_FORMS_less ?q_FORMS_less ?v_FORMS_equal ?l_FORMS_equal ?q_FORMS_equal ?v_FORMS_high ?l_FORMS_high ?q_FORMS_high ?v_FORMS_low ?l_FORMS_low ?q_FORMS_low ?v_FORMS_load ?l_FORMS_load ?q_FORMS_load ?v_FORMS_store ?l_FORMS_store ?q_FORMS_store ?v_FORMS_jump ?l_FORMS_jump ?q_FORMS_jump ?v_FORMS_branch ?l_FORMS_branch ?q_FORMS_branch ?v_FORMS_call ?l_FORMS_call ?q_FORMS_call ?v_FORMS_save ?l_FORMS_save ?q_FORMS_save ?v_FORMS_restore ?l_FORMS_restore ?q_FORMS_restore ?v_FORMS_back ?l_FORMS_back ?q_FORMS_back ?v_FORMS_raise ?l_FORMS_raise ?q_FORMS_raise ?v_FORMS_again ?l_FORMS_again ?q_FORMS_again ?v_FORMS_tick ?l_FORMS_tick ?q_FORMS_tick ?v_FORMS_put ?l_FORMS_put ?q_FORMS_put ?v_FORMS_get ?l_FORMS_get ?q_FORMS_get ?v_FORMS_below ?l_FORMS_below ?q_FORMS_below ?v_FORMS_above ?l_FORMS_above ?q_FORMS_above ?v_FORMS_bar ?l_FORMS_bar ?q_FORMS_bar ?v_FORMS_setbar ?l_FORMS_setbar ?q_FORMS_setbar ?v_FORMS_retry ?l_FORMS_retry ?q_FORMS_retry ?a_NAMES ?l_NAMES ?q_NAMES ?dn_NAMES ?a_NAME_SHIFT ?z_abs ?z_all ?z_bool ?z_int ?z_isinstance ?z_len ?z_list ?z_max ?z_min ?z_range ?z_str ?z_sum ?z_tuple ?z_zip
    (case aC_AdaError => k_is)
    (case x_AdaError => k_exc)
    (case kC_AdaError => k_is)
    (case s1_AdaError => k_is)
    (case ty_AdaError => k_is)
    (case ic_AdaError => k_is)
    (case aC_ImageError => k_is)
    (case x_ImageError => k_exc)
    (case kC_ImageError => k_is)
    (case s1_ImageError => k_is)
    (case ty_ImageError => k_is)
    (case ic_ImageError => k_is)
    (case e_ImageError_ImageError => first | rfl | k_is)
    (case a_encode => k_is)
    (case l_encode => k_is)
    (case c_encode => k_is)
    (case k_encode => k_is)
    (case a_bits_of => k_is)
    (case l_bits_of => k_is)
    (case c_bits_of => k_is)
    (case k_bits_of => k_is)
    (case a_decode => k_is)
    (case l_decode => k_is)
    (case c_decode => k_is)
    (case k_decode => k_is)
    (case a_part_of => k_is)
    (case l_part_of => k_is)
    (case c_part_of => k_is)
    (case k_part_of => k_is)
    (case a_law_mixed => k_is)
    (case l_law_mixed => k_is)
    (case c_law_mixed => k_is)
    (case k_law_mixed => k_is)
    (case a_law_state => k_is)
    (case l_law_state => k_is)
    (case c_law_state => k_is)
    (case k_law_state => k_is)
    (case a_law_draw => k_is)
    (case l_law_draw => k_is)
    (case c_law_draw => k_is)
    (case k_law_draw => k_is)
    (case a_law_same => k_is)
    (case l_law_same => k_is)
    (case c_law_same => k_is)
    (case k_law_same => k_is)
    (case a_law_names => k_is)
    (case l_law_names => k_is)
    (case c_law_names => k_is)
    (case k_law_names => k_is)
    (case a_law_ranges => k_is)
    (case l_law_ranges => k_is)
    (case c_law_ranges => k_is)
    (case k_law_ranges => k_is)
    (case a_law_instruction => k_is)
    (case l_law_instruction => k_is)
    (case c_law_instruction => k_is)
    (case k_law_instruction => k_is)
    (case a_law_encoded => k_is)
    (case l_law_encoded => k_is)
    (case c_law_encoded => k_is)
    (case k_law_encoded => k_is)
    (case a_law_between => k_is)
    (case l_law_between => k_is)
    (case c_law_between => k_is)
    (case k_law_between => k_is)
    (case a_law_decoded => k_is)
    (case l_law_decoded => k_is)
    (case c_law_decoded => k_is)
    (case k_law_decoded => k_is)
    (case a_law => k_is)
    (case l_law => k_is)
    (case c_law => k_is)
    (case k_law => k_is)
    (case a_BAD => k_is)
    (case l_BAD => k_is)
    (case q_BAD => refine ⟨rfl, _, _, rfl, by decide, ?_⟩; repeat (first | exact .nil | refine .cons ⟨_, rfl⟩ ?_))
    (case dn_BAD => rfl)
    (case a_FIELDS => k_is)
    (case l_FIELDS => k_is)
    (case lit_FIELDS => repeat (first | exact trivial | refine ⟨⟨_, _, rfl, rfl⟩, ?_⟩))
    (case v_FIELDS_d => k_is)
    (case l_FIELDS_d => k_is)
    (case q_FIELDS_d => refine ⟨rfl, _, _, rfl, by decide, ?_⟩; repeat (first | exact .nil | refine .cons ⟨_, rfl⟩ ?_))
    (case v_FIELDS_a => k_is)
    (case l_FIELDS_a => k_is)
    (case q_FIELDS_a => refine ⟨rfl, _, _, rfl, by decide, ?_⟩; repeat (first | exact .nil | refine .cons ⟨_, rfl⟩ ?_))
    (case v_FIELDS_reg => k_is)
    (case l_FIELDS_reg => k_is)
    (case q_FIELDS_reg => refine ⟨rfl, _, _, rfl, by decide, ?_⟩; repeat (first | exact .nil | refine .cons ⟨_, rfl⟩ ?_))
    (case v_FIELDS_int => k_is)
    (case l_FIELDS_int => k_is)
    (case q_FIELDS_int => refine ⟨rfl, _, _, rfl, by decide, ?_⟩; repeat (first | exact .nil | refine .cons ⟨_, rfl⟩ ?_))
    (case v_FIELDS_part => k_is)
    (case l_FIELDS_part => k_is)
    (case q_FIELDS_part => refine ⟨rfl, _, _, rfl, by decide, ?_⟩; repeat (first | exact .nil | refine .cons ⟨_, rfl⟩ ?_))
    (case v_FIELDS_far => k_is)
    (case l_FIELDS_far => k_is)
    (case q_FIELDS_far => refine ⟨rfl, _, _, rfl, by decide, ?_⟩; repeat (first | exact .nil | refine .cons ⟨_, rfl⟩ ?_))
    (case v_FIELDS_distance => k_is)
    (case l_FIELDS_distance => k_is)
    (case q_FIELDS_distance => refine ⟨rfl, _, _, rfl, by decide, ?_⟩; repeat (first | exact .nil | refine .cons ⟨_, rfl⟩ ?_))
    (case v_FIELDS_number => k_is)
    (case l_FIELDS_number => k_is)
    (case q_FIELDS_number => refine ⟨rfl, _, _, rfl, by decide, ?_⟩; repeat (first | exact .nil | refine .cons ⟨_, rfl⟩ ?_))
    (case a_FLAG => k_is)
    (case a_FORMS => k_is)
    (case l_FORMS => k_is)
    (case lit_FORMS => repeat (first | exact trivial | refine ⟨⟨_, _, rfl, rfl⟩, ?_⟩))
    (case v_FORMS_halt => k_is)
    (case l_FORMS_halt => k_is)
    (case q_FORMS_halt => refine ⟨rfl, _, _, rfl, by decide, ?_⟩; repeat (first | exact .nil | refine .cons ⟨_, rfl⟩ ?_))
    (case v_FORMS_add => k_is)
    (case l_FORMS_add => k_is)
    (case q_FORMS_add => refine ⟨rfl, _, _, rfl, by decide, ?_⟩; repeat (first | exact .nil | refine .cons ⟨_, rfl⟩ ?_))
    (case v_FORMS_sub => k_is)
    (case l_FORMS_sub => k_is)
    (case q_FORMS_sub => refine ⟨rfl, _, _, rfl, by decide, ?_⟩; repeat (first | exact .nil | refine .cons ⟨_, rfl⟩ ?_))
    (case v_FORMS_mul => k_is)
    (case l_FORMS_mul => k_is)
    (case q_FORMS_mul => refine ⟨rfl, _, _, rfl, by decide, ?_⟩; repeat (first | exact .nil | refine .cons ⟨_, rfl⟩ ?_))
    (case v_FORMS_div => k_is)
    (case l_FORMS_div => k_is)
    (case q_FORMS_div => refine ⟨rfl, _, _, rfl, by decide, ?_⟩; repeat (first | exact .nil | refine .cons ⟨_, rfl⟩ ?_))
    (case v_FORMS_mod => k_is)
    (case l_FORMS_mod => k_is)
    (case q_FORMS_mod => refine ⟨rfl, _, _, rfl, by decide, ?_⟩; repeat (first | exact .nil | refine .cons ⟨_, rfl⟩ ?_))
    (case v_FORMS_rem => k_is)
    (case l_FORMS_rem => k_is)
    (case q_FORMS_rem => refine ⟨rfl, _, _, rfl, by decide, ?_⟩; repeat (first | exact .nil | refine .cons ⟨_, rfl⟩ ?_))
    (case v_FORMS_less => k_is)
    (case l_FORMS_less => k_is)
    (case q_FORMS_less => refine ⟨rfl, _, _, rfl, by decide, ?_⟩; repeat (first | exact .nil | refine .cons ⟨_, rfl⟩ ?_))
    (case v_FORMS_equal => k_is)
    (case l_FORMS_equal => k_is)
    (case q_FORMS_equal => refine ⟨rfl, _, _, rfl, by decide, ?_⟩; repeat (first | exact .nil | refine .cons ⟨_, rfl⟩ ?_))
    (case v_FORMS_high => k_is)
    (case l_FORMS_high => k_is)
    (case q_FORMS_high => refine ⟨rfl, _, _, rfl, by decide, ?_⟩; repeat (first | exact .nil | refine .cons ⟨_, rfl⟩ ?_))
    (case v_FORMS_low => k_is)
    (case l_FORMS_low => k_is)
    (case q_FORMS_low => refine ⟨rfl, _, _, rfl, by decide, ?_⟩; repeat (first | exact .nil | refine .cons ⟨_, rfl⟩ ?_))
    (case v_FORMS_load => k_is)
    (case l_FORMS_load => k_is)
    (case q_FORMS_load => refine ⟨rfl, _, _, rfl, by decide, ?_⟩; repeat (first | exact .nil | refine .cons ⟨_, rfl⟩ ?_))
    (case v_FORMS_store => k_is)
    (case l_FORMS_store => k_is)
    (case q_FORMS_store => refine ⟨rfl, _, _, rfl, by decide, ?_⟩; repeat (first | exact .nil | refine .cons ⟨_, rfl⟩ ?_))
    (case v_FORMS_jump => k_is)
    (case l_FORMS_jump => k_is)
    (case q_FORMS_jump => refine ⟨rfl, _, _, rfl, by decide, ?_⟩; repeat (first | exact .nil | refine .cons ⟨_, rfl⟩ ?_))
    (case v_FORMS_branch => k_is)
    (case l_FORMS_branch => k_is)
    (case q_FORMS_branch => refine ⟨rfl, _, _, rfl, by decide, ?_⟩; repeat (first | exact .nil | refine .cons ⟨_, rfl⟩ ?_))
    (case v_FORMS_call => k_is)
    (case l_FORMS_call => k_is)
    (case q_FORMS_call => refine ⟨rfl, _, _, rfl, by decide, ?_⟩; repeat (first | exact .nil | refine .cons ⟨_, rfl⟩ ?_))
    (case v_FORMS_save => k_is)
    (case l_FORMS_save => k_is)
    (case q_FORMS_save => refine ⟨rfl, _, _, rfl, by decide, ?_⟩; repeat (first | exact .nil | refine .cons ⟨_, rfl⟩ ?_))
    (case v_FORMS_restore => k_is)
    (case l_FORMS_restore => k_is)
    (case q_FORMS_restore => refine ⟨rfl, _, _, rfl, by decide, ?_⟩; repeat (first | exact .nil | refine .cons ⟨_, rfl⟩ ?_))
    (case v_FORMS_back => k_is)
    (case l_FORMS_back => k_is)
    (case q_FORMS_back => refine ⟨rfl, _, _, rfl, by decide, ?_⟩; repeat (first | exact .nil | refine .cons ⟨_, rfl⟩ ?_))
    (case v_FORMS_raise => k_is)
    (case l_FORMS_raise => k_is)
    (case q_FORMS_raise => refine ⟨rfl, _, _, rfl, by decide, ?_⟩; repeat (first | exact .nil | refine .cons ⟨_, rfl⟩ ?_))
    (case v_FORMS_again => k_is)
    (case l_FORMS_again => k_is)
    (case q_FORMS_again => refine ⟨rfl, _, _, rfl, by decide, ?_⟩; repeat (first | exact .nil | refine .cons ⟨_, rfl⟩ ?_))
    (case v_FORMS_tick => k_is)
    (case l_FORMS_tick => k_is)
    (case q_FORMS_tick => refine ⟨rfl, _, _, rfl, by decide, ?_⟩; repeat (first | exact .nil | refine .cons ⟨_, rfl⟩ ?_))
    (case v_FORMS_put => k_is)
    (case l_FORMS_put => k_is)
    (case q_FORMS_put => refine ⟨rfl, _, _, rfl, by decide, ?_⟩; repeat (first | exact .nil | refine .cons ⟨_, rfl⟩ ?_))
    (case v_FORMS_get => k_is)
    (case l_FORMS_get => k_is)
    (case q_FORMS_get => refine ⟨rfl, _, _, rfl, by decide, ?_⟩; repeat (first | exact .nil | refine .cons ⟨_, rfl⟩ ?_))
    (case v_FORMS_below => k_is)
    (case l_FORMS_below => k_is)
    (case q_FORMS_below => refine ⟨rfl, _, _, rfl, by decide, ?_⟩; repeat (first | exact .nil | refine .cons ⟨_, rfl⟩ ?_))
    (case v_FORMS_above => k_is)
    (case l_FORMS_above => k_is)
    (case q_FORMS_above => refine ⟨rfl, _, _, rfl, by decide, ?_⟩; repeat (first | exact .nil | refine .cons ⟨_, rfl⟩ ?_))
    (case v_FORMS_bar => k_is)
    (case l_FORMS_bar => k_is)
    (case q_FORMS_bar => refine ⟨rfl, _, _, rfl, by decide, ?_⟩; repeat (first | exact .nil | refine .cons ⟨_, rfl⟩ ?_))
    (case v_FORMS_setbar => k_is)
    (case l_FORMS_setbar => k_is)
    (case q_FORMS_setbar => refine ⟨rfl, _, _, rfl, by decide, ?_⟩; repeat (first | exact .nil | refine .cons ⟨_, rfl⟩ ?_))
    (case v_FORMS_retry => k_is)
    (case l_FORMS_retry => k_is)
    (case q_FORMS_retry => refine ⟨rfl, _, _, rfl, by decide, ?_⟩; repeat (first | exact .nil | refine .cons ⟨_, rfl⟩ ?_))
    (case a_NAMES => k_is)
    (case l_NAMES => k_is)
    (case q_NAMES => refine ⟨rfl, _, _, rfl, by decide, ?_⟩; repeat (first | exact .nil | refine .cons ⟨_, rfl⟩ ?_))
    (case dn_NAMES => rfl)
    (case a_NAME_SHIFT => k_is)
    (case z_abs => k_is)
    (case z_all => k_is)
    (case z_bool => k_is)
    (case z_int => k_is)
    (case z_isinstance => k_is)
    (case z_len => k_is)
    (case z_list => k_is)
    (case z_max => k_is)
    (case z_min => k_is)
    (case z_range => k_is)
    (case z_str => k_is)
    (case z_sum => k_is)
    (case z_tuple => k_is)
    (case z_zip => k_is)

