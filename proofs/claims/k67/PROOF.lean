import PyProof.Rows.All
import Wide.All
import OpenK.AllK
import Wide.FinOn
import HandS.ForMost
import HandS.ForExc
import HandS.Wide
import HandS.IsInst
import HandS.ExcIs
import HandS.WordsExc
import HandS.Property
import HandS.More
import HandS.Codes
import HandS.TupMul
import HandS.Strs
import HandS.SetFor
import HandS.TryOnly
import HandS.Star
import KE.GoesZip
import KE.GoesEnum
import KE.KItemsList
import HandS.Conv
import HandS.TryMany
import HandS.Style
import HandS.RaiseMore
import HandS.FStr
import HandS.Zip
import HandS.HotCalls
import HandS.ExcCtx
import PySem.Challenge.RW_windowada_k67_ring
set_option Elab.async false
set_option maxRecDepth 100000
set_option maxHeartbeats 4000000
set_option linter.all false
namespace My
open PySem L2
/-! ### helpers -/
def IsTupOf (o : Obj) (xs : List V) : Prop := o.cls = .type "tuple" ∧ ∃ (its : Array Value) (n : Nat), o.data = .seq its n ∧ its.size ≤ sizeLine ∧ Vals xs its.toList
theorem sqT_of {K : PySem.W.Frag} {H : Hp} {a : Addr} {o : Obj} {xs : List V} (h : K.lookup a = some o) (q : IsTupOf o xs) : SqT K H a xs := by
  obtain ⟨c, its, n, d, z, r⟩ := q
  exact .inr ⟨o, its, n, h, c, d, z, r⟩
theorem upd_self {H : Hp} {a : Addr} {o : HO} (h : H a = some o) : upd H a o = H := by
  funext b
  unfold upd
  split
  · rename_i e; rw [e, h]
  · rfl
theorem exm_of {K : PySem.W.Frag} {S C : Addr} (h1 : PySem.W.subIn K (.ref C) (.type "BaseException") = some true) (h2 : PySem.W.isClsIn K C = true) (h3 : PySem.W.typeIn K (.ref C) = some (.type "type")) {b : Bool} (h4 : PySem.W.subIn K (.ref S) (.ref C) = some b) :
    PySem.W.exmOne K (.ref S) (.ref C) = some b := by
  have e1 : (PySem.W.subIn K (.ref C) (.type "BaseException") == some true) = true := by rw [h1] <;> rfl
  have e2 : ((PySem.W.clsIn K C).isSome && PySem.W.typeIn K (.ref C) == some (.type "type")) = true := by
    have h2' : (PySem.W.clsIn K C).isSome = true := h2
    rw [h2', h3] <;> rfl
  show (if (PySem.W.subIn K (.ref C) (.type "BaseException") == some true) = true then (if ((PySem.W.clsIn K C).isSome && PySem.W.typeIn K (.ref C) == some (.type "type")) = true then PySem.W.subIn K (.ref S) (.ref C) else none) else none) = some b
  rw [if_pos e1, if_pos e2]
  exact h4
theorem sN {H H1 : Hp} {p : Addr} {o : HO} (s : Same H H1) (n : H1 p = none) : Same H (upd H1 p o) := fun b u e => by
  rw [upd_ne (ne_of_none (s b u e) n)]
  exact s b u e
theorem seqT {K : PySem.W.Frag} {H H' : Hp} {a : Addr} {xs : List V} (e : Same H H') (h : SqT K H a xs) : SqT K H' a xs := by
  rcases h with (h | ⟨o, h⟩) | h
  · exact .inl (.inl (e _ _ h))
  · exact .inl (.inr ⟨o, e _ _ h⟩)
  · exact .inr h
theorem ite3 {b : Bool} {A B : Prop} (h1 : b = true → A) (h2 : b = false → B) : if b = true then A else B := by
  cases b with
  | true => exact iteT (h1 rfl)
  | false => exact iteF (h2 rfl)
section
variable {X : Cx}
def rInS (K : PySem.W.Frag) : R2 := fun x y H Q => ∃ p xs, y = .ref p ∧ (SqL K H p xs ∨ SqT K H p xs) ∧ flatV x = true ∧ xs.all flatV = true ∧ Q (.bl (inV x xs)) H
def rNotInS (K : PySem.W.Frag) : R2 := fun x y H Q => ∃ p xs, y = .ref p ∧ (SqL K H p xs ∨ SqT K H p xs) ∧ flatV x = true ∧ xs.all flatV = true ∧ Q (.bl (!inV x xs)) H
theorem op_inS : OpR X (compareOp .In) (rInS X.K) := fun pins s σ H x y v u Q I rx ry h => op_in_seq pins s σ H x y v u Q I rx ry h
theorem op_notInS : OpR X (compareOp .NotIn) (rNotInS X.K) := fun pins s σ H x y v u Q I rx ry h => op_notIn_seq pins s σ H x y v u Q I rx ry h
end
theorem at0 {v : V} {r : List V} : atI (v :: r) 0 = some v := atI_nat (j := 0) rfl
theorem sUpd {H H1 : Hp} {p : Addr} {o : HO} (s : Same H H1) (n : H p = none) : Same H (upd H1 p o) := fun b u e => by
  rw [upd_ne (ne_of_none e n)]
  exact s b u e
/-! ### match over a value -/
structure PMC (X : Cx) (cases : List MatchCase) (t : V → TS) : Prop where
  run : ∀ (first : Bool) (pins : List (Addr × Obj)) (s : Shared) (σ : St) (H : Hp) (D : Ends) (x : V) (v : Value), Inv X pins σ H s → RelV x v → t x D σ H → wpAny (model X.prog X.w) X.A (matchCases cases X.env v first) (SP X pins D) X.xe s
def mNil : V → TS := fun _ D σ H => D.nx σ H
def mStr (z : Str) (t : TS) (u : V → TS) : V → TS := fun x D σ H => scal x (.str z) = true ∧ if decide (x = .str z) = true then t D σ H else u x D σ H
def tMatch (te : TE) (t : V → TS) : TS := fun D σ H => te σ H fun x H1 => t x D σ H1
section
variable {X : Cx}
theorem pmc_nil : PMC X [] mNil := ⟨fun _ _ _ σ H D x v I _ h => wpAny_matchCases_nil ⟨σ, H, I, h⟩⟩
theorem pmc_str {z : Str} {j : Nat} {p p2 : Pos} {body : List Stmt} {rest : List MatchCase} {t : TS} {u : V → TS} (hb : PSs X body t) (hr : PMC X rest u) : PMC X (⟨.MatchValue (.Constant (.str z) j p) p2, none, body⟩ :: rest) (mStr z t u) := by
  refine ⟨fun first pins s σ H D x v I r h => ?_⟩
  obtain ⟨hs, h⟩ := h
  refine wpAny_matchCases_cons (wpAny_matchPattern_Value ?_)
  have hz : PE X (.Constant (.str z) j p) (tC (.str z)) := pe_str
  refine thn (hz.run pins s σ H (fun y H1 => y = .str z ∧ H1 = H) I ⟨rfl, rfl⟩) fun w s1 ⟨y, H1, I1, r1, e1, e2⟩ => ?_
  subst e1; subst e2
  refine thn (op_eq pins s1 σ H1 x (.str z) v w (fun y H2 => y = .bl (decide (x = .str z)) ∧ H2 = H1) I1 r r1 ⟨hs, rfl, rfl⟩) fun c s2 ⟨y, H2, I2, r2, e1, e2⟩ => ?_
  subst e1; subst e2
  cases r2
  refine wpAny_truthy_bool ?_
  cases e : decide (x = V.str z) with
  | true =>
    rw [e] at h
    refine wpAny_assignInOrder_none ?_
    exact hb.run pins s2 σ H2 D I2 (by simpa using h)
  | false =>
    rw [e] at h
    exact hr.run false pins s2 σ H2 D x v I2 r (by simpa using h)
theorem ps_match {e : Expr} {cs : List MatchCase} {pos : Pos} {te : TE} {t : V → TS} (he : PE X e te) (hc : PMC X cs t) : PS X (.Match e cs pos) (tMatch te t) := by
  refine ⟨fun pins s σ H D I h => ?_⟩
  exact wpAny_Match (thn (he.run pins s σ H _ I h) fun v s1 ⟨x, H1, I1, r1, q1⟩ => hc.run true pins s1 σ H1 D x v I1 r1 q1)
/-- isinstance(e, c) in a suite, whatever the caught class is -/
def rIsEx (K : PySem.W.Frag) (a : Addr) (cls : Value) (d : Option Addr) : List V → Hp → VK → Prop := fun xs H Q => ∃ D, cls = .ref D ∧ d = none ∧ ExcC K D ∧ rIsE K D a xs H Q
theorem call_isEx {a : Addr} {cls : Value} {d : Option Addr} {oe : Obj} {pn : List (Addr × Obj)} (hz : Zc cls d oe) (hf : ∃ vs, oe.data = .fields vs) : CallR (X.suite a ((a, oe) :: pn)) (.builtin "isinstance") (rIsEx X.K a cls d) := by
  intro pins s σ H xs us Q I r h
  obtain ⟨D, rfl, rfl, C, h⟩ := h
  exact call_isE C hz hf pins s σ H xs us Q I r h
end
theorem kit_self {K : PySem.W.Frag} {D : Addr} : PySem.W.kitOne K (.ref D) (.ref D) = some true := by
  unfold PySem.W.kitOne
  rw [if_pos (by simp)]
theorem kit_no {K : PySem.W.Frag} {D C : Addr} (h : PySem.W.subIn K (.ref D) (.ref C) = some false) (hs : PySem.W.subIn K (.ref C) (.ref C) = some true) (h2 : PySem.W.isClsIn K C = true) (h3 : PySem.W.typeIn K (.ref C) = some (.type "type")) :
    PySem.W.kitOne K (.ref D) (.ref C) = some false := by
  have ne : ¬ ((Value.ref D == Value.ref C) = true) := fun e => by
    have e' : D = C := by simpa using e
    subst e'
    rw [h] at hs
    exact nomatch hs
  have e2 : ((PySem.W.clsIn K C).isSome && PySem.W.typeIn K (.ref C) == some (.type "type")) = true := by
    have h2' : (PySem.W.clsIn K C).isSome = true := h2
    rw [h2', h3] <;> rfl
  unfold PySem.W.kitOne
  rw [if_neg ne]
  show (if ((PySem.W.clsIn K C).isSome && PySem.W.typeIn K (.ref C) == some (.type "type")) = true then PySem.W.subIn K (.ref D) (.ref C) else none) = some false
  rw [if_pos e2]
  exact h
theorem kit_sub {K : PySem.W.Frag} {D C : Addr} {b : Bool} (h : PySem.W.subIn K (.ref D) (.ref C) = some b) (hs : b = false → PySem.W.subIn K (.ref C) (.ref C) = some true) (h2 : PySem.W.isClsIn K C = true) (h3 : PySem.W.typeIn K (.ref C) = some (.type "type")) :
    PySem.W.kitOne K (.ref D) (.ref C) = some b := by
  cases b with
  | false => exact kit_no h (hs rfl) h2 h3
  | true =>
    have e2 : ((PySem.W.clsIn K C).isSome && PySem.W.typeIn K (.ref C) == some (.type "type")) = true := by
      have h2' : (PySem.W.clsIn K C).isSome = true := h2
      rw [h2', h3] <;> rfl
    unfold PySem.W.kitOne
    split
    · rfl
    · show (if ((PySem.W.clsIn K C).isSome && PySem.W.typeIn K (.ref C) == some (.type "type")) = true then PySem.W.subIn K (.ref D) (.ref C) else none) = some true
      rw [if_pos e2]
      exact h
theorem kit_bt {K : PySem.W.Frag} {D : Addr} {n : String} {b : Bool} (hm : PySem.W.kitMeta n = true) (h : PySem.W.subIn K (.ref D) (.type n) = some b) : PySem.W.kitOne K (.ref D) (.type n) = some b := by
  unfold PySem.W.kitOne
  rw [if_neg (by simp)]
  show (if PySem.W.kitMeta n = true then PySem.W.subIn K (.ref D) (.type n) else none) = some b
  rw [if_pos hm]
  exact h
/-! ### a method that may raise, called in a try -/
section
variable {X : Cx} {CX : CXT} {k : Nat} {f C : Addr} {fd : FuncData} {ps : List Str} {sp : Sp} {E : St → XK} {m : Str} {pos apos : Pos} {e o : Expr} {es : List Expr} {ta : TE} {t : TA}
def tMethE (C : Addr) (m : Str) (sp : Sp) (E : St → XK) (ta : TE) (t : TA) : TE := fun σ H Q => ta σ H fun x H1 => ∃ a dx fs, x = .ref a ∧ H1 a = some (.ins C dx fs) ∧ fs.lookup m = none ∧ t σ H1 fun vs H2 => sp (x :: vs) H2 Q (E σ)
theorem pe_methE0 {pl : Sem Bool} (he : PE X o ta) (c : Cls X.K C) (hm : Meth X.K C m f) (F : FnOk X.prog X.w X.K X.mg X.base CX k f fd ps sp) (hr : Room k X.A) (hb : Binds X.K fd ps []) (hx : ∀ σ, PassesAt CX X σ (E σ))
    (ht : eval (.Call (.Attribute o m apos) [] [] pos) X.env = (do
      let ov ← eval o X.env
      standAt apos.atName
      let (f, first) ← holding [ov] (getMethod ov m pl)
      callWith pos f first (backTo pos (starEach [] X.env)) (backToKw pos (keywordEach [] X.env))) := by rfl) :
    PE X (.Call (.Attribute o m apos) [] [] pos) (tMethE C m sp E ta tNil) := by
  refine ⟨fun pins s σ H Q I h => ?_⟩
  refine PySem.W.methodCall_KW (pl := pl) (thn (he.run pins s σ H _ I h) fun u s1 ⟨x, H1, I1, rx, a, dx, fs, ex, ea, l, q⟩ => ?_) ht
  subst ex
  obtain rfl : u = Value.ref a := rx
  refine getmeth_ok I1 ea c hm l ?_
  exact PySem.W.callWith_K0 (first := [.ref a]) I1.kIn hm.kp (run_fnS (us := [.ref a]) (vs := [.ref a]) F hr hb (hx σ) I1 (.cons rfl .nil) q)
theorem pe_methE {pl : Sem Bool} (he : PE X o ta) (c : Cls X.K C) (hm : Meth X.K C m f) (F : FnOk X.prog X.w X.K X.mg X.base CX k f fd ps sp) (hr : Room k X.A) (hb : Binds X.K fd ps []) (hx : ∀ σ, PassesAt CX X σ (E σ)) (ha : PA X (e :: es) t)
    (hst : starEach (e :: es) X.env = (false, eval e X.env) :: starEach es X.env := by rfl) (hpl : (backTo pos (starEach es X.env)).any (·.1) = false := by rfl)
    (ht : eval (.Call (.Attribute o m apos) (e :: es) [] pos) X.env = (do
      let ov ← eval o X.env
      standAt apos.atName
      let (f, first) ← holding [ov] (getMethod ov m pl)
      callWith pos f first (backTo pos (starEach (e :: es) X.env)) (backToKw pos (keywordEach [] X.env))) := by rfl) :
    PE X (.Call (.Attribute o m apos) (e :: es) [] pos) (tMethE C m sp E ta t) := by
  refine ⟨fun pins s σ H Q I h => ?_⟩
  refine PySem.W.methodCall_KW (pl := pl) (thn (he.run pins s σ H _ I h) fun u s1 ⟨x, H1, I1, rx, a, dx, fs, ex, ea, l, q⟩ => ?_) ht
  subst ex
  obtain rfl : u = Value.ref a := rx
  refine getmeth_ok I1 ea c hm l ?_
  refine PySem.W.callWith_K (first := [.ref a]) (h₀ := X.base) I.ok.mod.kin hm.kp (thn (ha.run pos pins s1 σ H1 _ I1 q) fun us s2 ⟨vs, H2, I2, r, q2⟩ => ⟨I2.kIn, ?_⟩) hst hpl
  exact run_fnS (us := .ref a :: us) (vs := .ref a :: vs) F hr hb (hx σ) I2 (.cons rfl r) q2
end
def spNever : Sp := fun _ _ _ _ => False
theorem tyx_tup {K : PySem.W.Frag} {H : Hp} {a : Addr} {xs : List V} (h : SqT K H a xs) : TyX K H (.ref a) (.type "tuple") := by
  rcases h with (h | ⟨o, h⟩) | ⟨o, its, n, hk, hc, _⟩
  · exact .base (.tup h)
  · exact .fTuple h
  · exact .kTuple hk hc

def top (i : Nat) : Stmt := PySem.Challenge.pw_windowada_k67_ring.main.body.getD i (.Pass ⟨0, 0, 0, 0⟩)
abbrev s_empty_view : Stmt := top 9
abbrev s_locals_and_ins : Stmt := top 10
abbrev s_view_below : Stmt := top 11
abbrev s_view_above : Stmt := top 12
abbrev s_Ring___init__ : Stmt := inClass (top 15) 0
abbrev s_Ring_read : Stmt := inClass (top 15) 1
abbrev s_Ring_write : Stmt := inClass (top 15) 2
abbrev s_Ring_shift_down : Stmt := inClass (top 15) 3
abbrev s_Ring_shift_up : Stmt := inClass (top 15) 4
abbrev s_Ring_blocked_down : Stmt := inClass (top 15) 5
abbrev s_Ring_blocked_up : Stmt := inClass (top 15) 6
abbrev s_Ring__spill : Stmt := inClass (top 15) 7
abbrev s_Ring__fill : Stmt := inClass (top 15) 8
abbrev s_Ring__save_area : Stmt := inClass (top 15) 9
abbrev s_law_mixed : Stmt := top 17
abbrev s_law_state : Stmt := top 18
abbrev s_law_draw : Stmt := top 19
abbrev s_law_is_integer : Stmt := top 20
abbrev s_law_word : Stmt := top 21
abbrev s_law_spot : Stmt := top 22
abbrev s_law_get : Stmt := top 23
abbrev s_law_set : Stmt := top 24
abbrev s_law_add : Stmt := top 25
abbrev s_law_lies : Stmt := top 26
abbrev s_law_ring_down : Stmt := top 27
abbrev s_law_ring_up : Stmt := top 28
abbrev s_law_goes_down : Stmt := top 29
abbrev s_law_goes_up : Stmt := top 30
abbrev s_law_alike : Stmt := top 31
abbrev s_law_write : Stmt := top 32
abbrev s_law_deed : Stmt := top 33
abbrev s_law : Stmt := top 34
theorem sc_empty_view : FnScope [] [] (defScope s_empty_view) := ⟨rfl, rfl, rfl, by decide +kernel, rfl, by decide +kernel, by decide +kernel⟩
theorem sc_locals_and_ins : FnScope ["view"] ["view"] (defScope s_locals_and_ins) := ⟨rfl, rfl, rfl, by decide +kernel, rfl, by decide +kernel, by decide +kernel⟩
theorem sc_view_below : FnScope ["view"] ["view"] (defScope s_view_below) := ⟨rfl, rfl, rfl, by decide +kernel, rfl, by decide +kernel, by decide +kernel⟩
theorem sc_view_above : FnScope ["view", "words"] ["view", "words"] (defScope s_view_above) := ⟨rfl, rfl, rfl, by decide +kernel, rfl, by decide +kernel, by decide +kernel⟩
theorem sc_Ring___init__ : FnScope ["self", "memory", "windows"] ["self", "memory", "windows"] (defScope s_Ring___init__) := ⟨rfl, rfl, rfl, by decide +kernel, rfl, by decide +kernel, by decide +kernel⟩
theorem sc_Ring_read : FnScope ["self", "number"] ["self", "number"] (defScope s_Ring_read) := ⟨rfl, rfl, rfl, by decide +kernel, rfl, by decide +kernel, by decide +kernel⟩
theorem sc_Ring_write : FnScope ["self", "number", "word"] ["self", "number", "word"] (defScope s_Ring_write) := ⟨rfl, rfl, rfl, by decide +kernel, rfl, by decide +kernel, by decide +kernel⟩
theorem sc_Ring_shift_down : FnScope ["self"] ["self"] (defScope s_Ring_shift_down) := ⟨rfl, rfl, rfl, by decide +kernel, rfl, by decide +kernel, by decide +kernel⟩
theorem sc_Ring_shift_up : FnScope ["self"] ["self"] (defScope s_Ring_shift_up) := ⟨rfl, rfl, rfl, by decide +kernel, rfl, by decide +kernel, by decide +kernel⟩
theorem sc_Ring_blocked_down : FnScope ["self"] ["self"] (defScope s_Ring_blocked_down) := ⟨rfl, rfl, rfl, by decide +kernel, rfl, by decide +kernel, by decide +kernel⟩
theorem sc_Ring_blocked_up : FnScope ["self"] ["self"] (defScope s_Ring_blocked_up) := ⟨rfl, rfl, rfl, by decide +kernel, rfl, by decide +kernel, by decide +kernel⟩
theorem sc_Ring__spill : FnScope ["self", "below", "start"] ["self"] (defScope s_Ring__spill) := ⟨rfl, rfl, rfl, by decide +kernel, rfl, by decide +kernel, by decide +kernel⟩
theorem sc_Ring__fill : FnScope ["self", "start"] ["self"] (defScope s_Ring__fill) := ⟨rfl, rfl, rfl, by decide +kernel, rfl, by decide +kernel, by decide +kernel⟩
theorem sc_Ring__save_area : FnScope ["self", "start"] ["self", "start"] (defScope s_Ring__save_area) := ⟨rfl, rfl, rfl, by decide +kernel, rfl, by decide +kernel, by decide +kernel⟩
theorem sc_law_mixed : FnScope ["number", "count", "first", "second"] ["number", "count"] (defScope s_law_mixed) := ⟨rfl, rfl, rfl, by decide +kernel, rfl, by decide +kernel, by decide +kernel⟩
theorem sc_law_state : FnScope ["script", "budget"] ["script", "budget"] (defScope s_law_state) := ⟨rfl, rfl, rfl, by decide +kernel, rfl, by decide +kernel, by decide +kernel⟩
theorem sc_law_draw : FnScope ["state", "many", "cells", "cell", "digit"] ["state", "many"] (defScope s_law_draw) := ⟨rfl, rfl, rfl, by decide +kernel, rfl, by decide +kernel, by decide +kernel⟩
theorem sc_law_is_integer : FnScope ["actual"] ["actual"] (defScope s_law_is_integer) := ⟨rfl, rfl, rfl, by decide +kernel, rfl, by decide +kernel, by decide +kernel⟩
theorem sc_law_word : FnScope ["state", "choice"] ["state"] (defScope s_law_word) := ⟨rfl, rfl, rfl, by decide +kernel, rfl, by decide +kernel, by decide +kernel⟩
theorem sc_law_spot : FnScope ["m", "number", "window"] ["m", "number"] (defScope s_law_spot) := ⟨rfl, rfl, rfl, by decide +kernel, rfl, by decide +kernel, by decide +kernel⟩
theorem sc_law_get : FnScope ["m", "number", "row", "at"] ["m", "number"] (defScope s_law_get) := ⟨rfl, rfl, rfl, by decide +kernel, rfl, by decide +kernel, by decide +kernel⟩
theorem sc_law_set : FnScope ["m", "number", "word", "row", "at"] ["m", "number", "word"] (defScope s_law_set) := ⟨rfl, rfl, rfl, by decide +kernel, rfl, by decide +kernel, by decide +kernel⟩
theorem sc_law_add : FnScope ["m", "key", "by"] ["m", "key", "by"] (defScope s_law_add) := ⟨rfl, rfl, rfl, by decide +kernel, rfl, by decide +kernel, by decide +kernel⟩
theorem sc_law_lies : FnScope ["m", "start"] ["m", "start"] (defScope s_law_lies) := ⟨rfl, rfl, rfl, by decide +kernel, rfl, by decide +kernel, by decide +kernel⟩
theorem sc_law_ring_down : FnScope ["m", "rows", "memory", "start", "words", "k"] ["m"] (defScope s_law_ring_down) := ⟨rfl, rfl, rfl, by decide +kernel, rfl, by decide +kernel, by decide +kernel⟩
theorem sc_law_ring_up : FnScope ["m", "rows", "start", "words", "left"] ["m"] (defScope s_law_ring_up) := ⟨rfl, rfl, rfl, by decide +kernel, rfl, by decide +kernel, by decide +kernel⟩
theorem sc_law_goes_down : FnScope ["ring", "m", "answer", "e"] ["ring", "m"] (defScope s_law_goes_down) := ⟨rfl, rfl, rfl, by decide +kernel, rfl, by decide +kernel, by decide +kernel⟩
theorem sc_law_goes_up : FnScope ["ring", "m", "answer", "e"] ["ring", "m"] (defScope s_law_goes_up) := ⟨rfl, rfl, rfl, by decide +kernel, rfl, by decide +kernel, by decide +kernel⟩
theorem sc_law_alike : FnScope ["ring", "m", "memory", "number", "word", "told"] ["ring", "m", "memory"] (defScope s_law_alike) := ⟨rfl, rfl, rfl, by decide +kernel, rfl, by decide +kernel, by decide +kernel⟩
theorem sc_law_write : FnScope ["ring", "m", "number", "word"] ["ring", "m", "number", "word"] (defScope s_law_write) := ⟨rfl, rfl, rfl, by decide +kernel, rfl, by decide +kernel, by decide +kernel⟩
theorem sc_law_deed : FnScope ["state", "ring", "m", "memory", "choice", "before", "deep", "start", "at", "word", "own", "number"] ["state", "ring", "m", "memory"] (defScope s_law_deed) := ⟨rfl, rfl, rfl, by decide +kernel, rfl, by decide +kernel, by decide +kernel⟩
theorem sc_law : FnScope ["script", "state", "windows", "junk", "memory", "k", "ring", "m", "key", "turn", "word"] ["script"] (defScope s_law) := ⟨rfl, rfl, rfl, by decide +kernel, rfl, by decide +kernel, by decide +kernel⟩
structure Ad where
  f_empty_view : Addr
  d_empty_view : FuncData
  f_locals_and_ins : Addr
  d_locals_and_ins : FuncData
  f_view_below : Addr
  d_view_below : FuncData
  f_view_above : Addr
  d_view_above : FuncData
  f_Ring___init__ : Addr
  d_Ring___init__ : FuncData
  f_Ring_read : Addr
  d_Ring_read : FuncData
  f_Ring_write : Addr
  d_Ring_write : FuncData
  f_Ring_shift_down : Addr
  d_Ring_shift_down : FuncData
  f_Ring_shift_up : Addr
  d_Ring_shift_up : FuncData
  f_Ring_blocked_down : Addr
  d_Ring_blocked_down : FuncData
  f_Ring_blocked_up : Addr
  d_Ring_blocked_up : FuncData
  f_Ring__spill : Addr
  d_Ring__spill : FuncData
  f_Ring__fill : Addr
  d_Ring__fill : FuncData
  f_Ring__save_area : Addr
  d_Ring__save_area : FuncData
  f_law_mixed : Addr
  d_law_mixed : FuncData
  f_law_state : Addr
  d_law_state : FuncData
  f_law_draw : Addr
  d_law_draw : FuncData
  f_law_is_integer : Addr
  d_law_is_integer : FuncData
  f_law_word : Addr
  d_law_word : FuncData
  f_law_spot : Addr
  d_law_spot : FuncData
  f_law_get : Addr
  d_law_get : FuncData
  f_law_set : Addr
  d_law_set : FuncData
  f_law_add : Addr
  d_law_add : FuncData
  f_law_lies : Addr
  d_law_lies : FuncData
  f_law_ring_down : Addr
  d_law_ring_down : FuncData
  f_law_ring_up : Addr
  d_law_ring_up : FuncData
  f_law_goes_down : Addr
  d_law_goes_down : FuncData
  f_law_goes_up : Addr
  d_law_goes_up : FuncData
  f_law_alike : Addr
  d_law_alike : FuncData
  f_law_write : Addr
  d_law_write : FuncData
  f_law_deed : Addr
  d_law_deed : FuncData
  f_law : Addr
  d_law : FuncData
  t_FIRST_IN : Tok
  t_FIRST_LOCAL : Tok
  t_FIRST_OUT : Tok
  t_POINTER : Tok
  t_SAVED : Tok
  C_Ring : Addr
  C_Fault : Addr
  C_AdaError : Addr
structure Txt (K : PySem.W.Frag) (mg : Str → Option Value) (a : Ad) : Prop where
  g_empty_view : mg "empty_view" = some (.ref a.f_empty_view)
  F_empty_view : Fun K "empty_view" "empty_view" s_empty_view a.f_empty_view a.d_empty_view
  k_empty_view : PySem.W.keepIn K (.ref a.f_empty_view) = true
  bd_empty_view : Binds K a.d_empty_view [] []
  g_locals_and_ins : mg "locals_and_ins" = some (.ref a.f_locals_and_ins)
  F_locals_and_ins : Fun K "locals_and_ins" "locals_and_ins" s_locals_and_ins a.f_locals_and_ins a.d_locals_and_ins
  k_locals_and_ins : PySem.W.keepIn K (.ref a.f_locals_and_ins) = true
  bd_locals_and_ins : Binds K a.d_locals_and_ins ["view"] []
  g_view_below : mg "view_below" = some (.ref a.f_view_below)
  F_view_below : Fun K "view_below" "view_below" s_view_below a.f_view_below a.d_view_below
  k_view_below : PySem.W.keepIn K (.ref a.f_view_below) = true
  bd_view_below : Binds K a.d_view_below ["view"] []
  g_view_above : mg "view_above" = some (.ref a.f_view_above)
  F_view_above : Fun K "view_above" "view_above" s_view_above a.f_view_above a.d_view_above
  k_view_above : PySem.W.keepIn K (.ref a.f_view_above) = true
  bd_view_above : Binds K a.d_view_above ["view", "words"] []
  F_Ring___init__ : Fun K "__init__" "Ring.__init__" s_Ring___init__ a.f_Ring___init__ a.d_Ring___init__
  k_Ring___init__ : PySem.W.keepIn K (.ref a.f_Ring___init__) = true
  bd_Ring___init__ : Binds K a.d_Ring___init__ ["self", "memory", "windows"] []
  F_Ring_read : Fun K "read" "Ring.read" s_Ring_read a.f_Ring_read a.d_Ring_read
  k_Ring_read : PySem.W.keepIn K (.ref a.f_Ring_read) = true
  bd_Ring_read : Binds K a.d_Ring_read ["self", "number"] []
  F_Ring_write : Fun K "write" "Ring.write" s_Ring_write a.f_Ring_write a.d_Ring_write
  k_Ring_write : PySem.W.keepIn K (.ref a.f_Ring_write) = true
  bd_Ring_write : Binds K a.d_Ring_write ["self", "number", "word"] []
  F_Ring_shift_down : Fun K "shift_down" "Ring.shift_down" s_Ring_shift_down a.f_Ring_shift_down a.d_Ring_shift_down
  k_Ring_shift_down : PySem.W.keepIn K (.ref a.f_Ring_shift_down) = true
  bd_Ring_shift_down : Binds K a.d_Ring_shift_down ["self"] []
  F_Ring_shift_up : Fun K "shift_up" "Ring.shift_up" s_Ring_shift_up a.f_Ring_shift_up a.d_Ring_shift_up
  k_Ring_shift_up : PySem.W.keepIn K (.ref a.f_Ring_shift_up) = true
  bd_Ring_shift_up : Binds K a.d_Ring_shift_up ["self"] []
  F_Ring_blocked_down : Fun K "blocked_down" "Ring.blocked_down" s_Ring_blocked_down a.f_Ring_blocked_down a.d_Ring_blocked_down
  k_Ring_blocked_down : PySem.W.keepIn K (.ref a.f_Ring_blocked_down) = true
  bd_Ring_blocked_down : Binds K a.d_Ring_blocked_down ["self"] []
  F_Ring_blocked_up : Fun K "blocked_up" "Ring.blocked_up" s_Ring_blocked_up a.f_Ring_blocked_up a.d_Ring_blocked_up
  k_Ring_blocked_up : PySem.W.keepIn K (.ref a.f_Ring_blocked_up) = true
  bd_Ring_blocked_up : Binds K a.d_Ring_blocked_up ["self"] []
  F_Ring__spill : Fun K "_spill" "Ring._spill" s_Ring__spill a.f_Ring__spill a.d_Ring__spill
  k_Ring__spill : PySem.W.keepIn K (.ref a.f_Ring__spill) = true
  bd_Ring__spill : Binds K a.d_Ring__spill ["self"] []
  F_Ring__fill : Fun K "_fill" "Ring._fill" s_Ring__fill a.f_Ring__fill a.d_Ring__fill
  k_Ring__fill : PySem.W.keepIn K (.ref a.f_Ring__fill) = true
  bd_Ring__fill : Binds K a.d_Ring__fill ["self"] []
  F_Ring__save_area : Fun K "_save_area" "Ring._save_area" s_Ring__save_area a.f_Ring__save_area a.d_Ring__save_area
  k_Ring__save_area : PySem.W.keepIn K (.ref a.f_Ring__save_area) = true
  bd_Ring__save_area : Binds K a.d_Ring__save_area ["self", "start"] []
  g__law_mixed : mg "_law_mixed" = some (.ref a.f_law_mixed)
  F__law_mixed : Fun K "_law_mixed" "_law_mixed" s_law_mixed a.f_law_mixed a.d_law_mixed
  k__law_mixed : PySem.W.keepIn K (.ref a.f_law_mixed) = true
  bd__law_mixed : Binds K a.d_law_mixed ["number", "count"] []
  g__law_state : mg "_law_state" = some (.ref a.f_law_state)
  F__law_state : Fun K "_law_state" "_law_state" s_law_state a.f_law_state a.d_law_state
  k__law_state : PySem.W.keepIn K (.ref a.f_law_state) = true
  bd__law_state : Binds K a.d_law_state ["script", "budget"] []
  g__law_draw : mg "_law_draw" = some (.ref a.f_law_draw)
  F__law_draw : Fun K "_law_draw" "_law_draw" s_law_draw a.f_law_draw a.d_law_draw
  k__law_draw : PySem.W.keepIn K (.ref a.f_law_draw) = true
  bd__law_draw : Binds K a.d_law_draw ["state", "many"] []
  g__law_is_integer : mg "_law_is_integer" = some (.ref a.f_law_is_integer)
  F__law_is_integer : Fun K "_law_is_integer" "_law_is_integer" s_law_is_integer a.f_law_is_integer a.d_law_is_integer
  k__law_is_integer : PySem.W.keepIn K (.ref a.f_law_is_integer) = true
  bd__law_is_integer : Binds K a.d_law_is_integer ["actual"] []
  g__law_word : mg "_law_word" = some (.ref a.f_law_word)
  F__law_word : Fun K "_law_word" "_law_word" s_law_word a.f_law_word a.d_law_word
  k__law_word : PySem.W.keepIn K (.ref a.f_law_word) = true
  bd__law_word : Binds K a.d_law_word ["state"] []
  g__law_spot : mg "_law_spot" = some (.ref a.f_law_spot)
  F__law_spot : Fun K "_law_spot" "_law_spot" s_law_spot a.f_law_spot a.d_law_spot
  k__law_spot : PySem.W.keepIn K (.ref a.f_law_spot) = true
  bd__law_spot : Binds K a.d_law_spot ["m", "number"] []
  g__law_get : mg "_law_get" = some (.ref a.f_law_get)
  F__law_get : Fun K "_law_get" "_law_get" s_law_get a.f_law_get a.d_law_get
  k__law_get : PySem.W.keepIn K (.ref a.f_law_get) = true
  bd__law_get : Binds K a.d_law_get ["m", "number"] []
  g__law_set : mg "_law_set" = some (.ref a.f_law_set)
  F__law_set : Fun K "_law_set" "_law_set" s_law_set a.f_law_set a.d_law_set
  k__law_set : PySem.W.keepIn K (.ref a.f_law_set) = true
  bd__law_set : Binds K a.d_law_set ["m", "number", "word"] []
  g__law_add : mg "_law_add" = some (.ref a.f_law_add)
  F__law_add : Fun K "_law_add" "_law_add" s_law_add a.f_law_add a.d_law_add
  k__law_add : PySem.W.keepIn K (.ref a.f_law_add) = true
  bd__law_add : Binds K a.d_law_add ["m", "key", "by"] []
  g__law_lies : mg "_law_lies" = some (.ref a.f_law_lies)
  F__law_lies : Fun K "_law_lies" "_law_lies" s_law_lies a.f_law_lies a.d_law_lies
  k__law_lies : PySem.W.keepIn K (.ref a.f_law_lies) = true
  bd__law_lies : Binds K a.d_law_lies ["m", "start"] []
  g__law_ring_down : mg "_law_ring_down" = some (.ref a.f_law_ring_down)
  F__law_ring_down : Fun K "_law_ring_down" "_law_ring_down" s_law_ring_down a.f_law_ring_down a.d_law_ring_down
  k__law_ring_down : PySem.W.keepIn K (.ref a.f_law_ring_down) = true
  bd__law_ring_down : Binds K a.d_law_ring_down ["m"] []
  g__law_ring_up : mg "_law_ring_up" = some (.ref a.f_law_ring_up)
  F__law_ring_up : Fun K "_law_ring_up" "_law_ring_up" s_law_ring_up a.f_law_ring_up a.d_law_ring_up
  k__law_ring_up : PySem.W.keepIn K (.ref a.f_law_ring_up) = true
  bd__law_ring_up : Binds K a.d_law_ring_up ["m"] []
  g__law_goes_down : mg "_law_goes_down" = some (.ref a.f_law_goes_down)
  F__law_goes_down : Fun K "_law_goes_down" "_law_goes_down" s_law_goes_down a.f_law_goes_down a.d_law_goes_down
  k__law_goes_down : PySem.W.keepIn K (.ref a.f_law_goes_down) = true
  bd__law_goes_down : Binds K a.d_law_goes_down ["ring", "m"] []
  g__law_goes_up : mg "_law_goes_up" = some (.ref a.f_law_goes_up)
  F__law_goes_up : Fun K "_law_goes_up" "_law_goes_up" s_law_goes_up a.f_law_goes_up a.d_law_goes_up
  k__law_goes_up : PySem.W.keepIn K (.ref a.f_law_goes_up) = true
  bd__law_goes_up : Binds K a.d_law_goes_up ["ring", "m"] []
  g__law_alike : mg "_law_alike" = some (.ref a.f_law_alike)
  F__law_alike : Fun K "_law_alike" "_law_alike" s_law_alike a.f_law_alike a.d_law_alike
  k__law_alike : PySem.W.keepIn K (.ref a.f_law_alike) = true
  bd__law_alike : Binds K a.d_law_alike ["ring", "m", "memory"] []
  g__law_write : mg "_law_write" = some (.ref a.f_law_write)
  F__law_write : Fun K "_law_write" "_law_write" s_law_write a.f_law_write a.d_law_write
  k__law_write : PySem.W.keepIn K (.ref a.f_law_write) = true
  bd__law_write : Binds K a.d_law_write ["ring", "m", "number", "word"] []
  g__law_deed : mg "_law_deed" = some (.ref a.f_law_deed)
  F__law_deed : Fun K "_law_deed" "_law_deed" s_law_deed a.f_law_deed a.d_law_deed
  k__law_deed : PySem.W.keepIn K (.ref a.f_law_deed) = true
  bd__law_deed : Binds K a.d_law_deed ["state", "ring", "m", "memory"] []
  g_law : mg "law" = some (.ref a.f_law)
  F_law : Fun K "law" "law" s_law a.f_law a.d_law
  k_law : PySem.W.keepIn K (.ref a.f_law) = true
  bd_law : Binds K a.d_law ["script"] []
  g_FIRST_IN : mg "FIRST_IN" = some (.int (24) a.t_FIRST_IN)
  g_FIRST_LOCAL : mg "FIRST_LOCAL" = some (.int (16) a.t_FIRST_LOCAL)
  g_FIRST_OUT : mg "FIRST_OUT" = some (.int (8) a.t_FIRST_OUT)
  g_POINTER : mg "POINTER" = some (.int (14) a.t_POINTER)
  g_SAVED : mg "SAVED" = some (.int (16) a.t_SAVED)
  b_abs : mg "abs" = none
  b_all : mg "all" = none
  b_bool : mg "bool" = none
  b_int : mg "int" = none
  b_isinstance : mg "isinstance" = none
  b_len : mg "len" = none
  b_list : mg "list" = none
  b_max : mg "max" = none
  b_range : mg "range" = none
  b_sum : mg "sum" = none
  g_Ring : mg "Ring" = some (.ref a.C_Ring)
  cl_Ring : Cls K a.C_Ring
  mk_Ring : Mk K a.C_Ring a.f_Ring___init__
  n_Ring_depth : NoAttr K a.C_Ring "depth"
  n_Ring_spills : NoAttr K a.C_Ring "spills"
  n_Ring_fills : NoAttr K a.C_Ring "fills"
  n_Ring_resident : NoAttr K a.C_Ring "resident"
  n_Ring__memory : NoAttr K a.C_Ring "_memory"
  n_Ring__most : NoAttr K a.C_Ring "_most"
  n_Ring__view : NoAttr K a.C_Ring "_view"
  n_Ring__above : NoAttr K a.C_Ring "_above"
  m_Ring_read : Meth K a.C_Ring "read" a.f_Ring_read
  m_Ring_write : Meth K a.C_Ring "write" a.f_Ring_write
  m_Ring_shift_down : Meth K a.C_Ring "shift_down" a.f_Ring_shift_down
  m_Ring_shift_up : Meth K a.C_Ring "shift_up" a.f_Ring_shift_up
  m_Ring_blocked_down : Meth K a.C_Ring "blocked_down" a.f_Ring_blocked_down
  m_Ring_blocked_up : Meth K a.C_Ring "blocked_up" a.f_Ring_blocked_up
  m_Ring__spill : Meth K a.C_Ring "_spill" a.f_Ring__spill
  m_Ring__fill : Meth K a.C_Ring "_fill" a.f_Ring__fill
  m_Ring__save_area : Meth K a.C_Ring "_save_area" a.f_Ring__save_area
  g_Fault : mg "Fault" = some (.ref a.C_Fault)
  x_Fault : PySem.W.excIn K a.C_Fault [.type "ValueError", .type "Exception", .type "BaseException", .type "object"] "ValueError.__new__" = true
  kC_Fault : PySem.W.keepIn K (.ref a.C_Fault) = true
  s1_Fault : PySem.W.subIn K (.ref a.C_Fault) (.type "BaseException") = some true
  ty_Fault : PySem.W.typeIn K (.ref a.C_Fault) = some (.type "type")
  ic_Fault : PySem.W.isClsIn K a.C_Fault = true
  ec_Fault : ExcC K a.C_Fault
  g_AdaError : mg "AdaError" = some (.ref a.C_AdaError)
  x_AdaError : PySem.W.excIn K a.C_AdaError [.type "ValueError", .type "Exception", .type "BaseException", .type "object"] "ValueError.__new__" = true
  kC_AdaError : PySem.W.keepIn K (.ref a.C_AdaError) = true
  s1_AdaError : PySem.W.subIn K (.ref a.C_AdaError) (.type "BaseException") = some true
  ty_AdaError : PySem.W.typeIn K (.ref a.C_AdaError) = some (.type "type")
  ic_AdaError : PySem.W.isClsIn K a.C_AdaError = true
  e_Fault_Fault : PySem.W.exmOne K (.ref a.C_Fault) (.ref a.C_Fault) = some true
  i_Fault_AdaError : PySem.W.kitOne K (.ref a.C_Fault) (.ref a.C_AdaError) = some true
/-! ### tags: who owns an address (owner, sort, number) -/
abbrev Tg : Type := Addr → Nat × Nat × Nat
def tgN (τ : Tg) (p : Addr) (x : Nat × Nat × Nat) : Tg := fun b => if b = p then x else τ b
theorem tg_same {τ : Tg} {p : Addr} {x : Nat × Nat × Nat} : tgN τ p x p = x := if_pos rfl
theorem tg_ne {τ : Tg} {p b : Addr} {x : Nat × Nat × Nat} (h : b ≠ p) : tgN τ p x b = τ b := if_neg h
theorem ne_tag {τ : Tg} {p q : Addr} {x y : Nat × Nat × Nat} (h1 : τ p = x) (h2 : τ q = y) (h : x ≠ y) : p ≠ q := fun e => h (by rw [← h1, ← h2, e])
/-- a step that writes at the owners S alone -/
structure Stp (τ τ' : Tg) (S : List Nat) (H H' : Hp) : Prop where
  fr : ∀ b o, H b = some o → (τ b).1 ∉ S → H' b = some o
  ag : ∀ b, H b ≠ none → τ' b = τ b
  al : ∀ b, H b ≠ none → H' b ≠ none
theorem some_ne {H : Hp} {b : Addr} {o : HO} (h : H b = some o) : H b ≠ none := by rw [h]; exact fun z => nomatch z
namespace Stp
variable {τ τ' τ2 : Tg} {S S' : List Nat} {H H' H2 : Hp}
theorem refl : Stp τ τ S H H := ⟨fun _ _ h _ => h, fun _ _ => rfl, fun _ h => h⟩
theorem mono (h : Stp τ τ' S H H') (i : ∀ x ∈ S, x ∈ S') : Stp τ τ' S' H H' := ⟨fun b o e n => h.fr b o e fun m => n (i _ m), h.ag, h.al⟩
theorem tr (x : Stp τ τ' S H H') (y : Stp τ' τ2 S H' H2) : Stp τ τ2 S H H2 :=
  ⟨fun b o e n => y.fr b o (x.fr b o e n) (by rw [x.ag b (some_ne e)]; exact n), fun b e => (y.ag b (x.al b e)).trans (x.ag b e), fun b e => y.al b (x.al b e)⟩
theorem same (h : Same H H') : Stp τ τ S H H' := ⟨fun b o e _ => h b o e, fun _ _ => rfl, fun b e => by
  cases z : H b with
  | none => exact absurd z e
  | some o => exact some_ne (h b o z)⟩
theorem new {p : Addr} {o : HO} {x : Nat × Nat × Nat} (h : Stp τ τ' S H H') (n : H' p = none) : Stp τ (tgN τ' p x) S H (upd H' p o) :=
  h.tr ⟨fun b u e _ => by rw [upd_ne (ne_of_none e n)]; exact e, fun b e => tg_ne fun z => e (by rw [z]; exact n), fun b e => by
    rw [upd_ne fun z => e (by rw [z]; exact n)]; exact e⟩
theorem put {p : Addr} {o : HO} (h : Stp τ τ' S H H') (m : (τ' p).1 ∈ S) : Stp τ τ' S H (upd H' p o) :=
  h.tr ⟨fun b u e n => by rw [upd_ne fun z => n (by rw [z]; exact m)]; exact e, fun _ _ => rfl, fun b e => by
    by_cases z : b = p
    · rw [z, upd_same]; exact fun z => nomatch z
    · rw [upd_ne z]; exact e⟩
theorem at_ {b : Addr} {o : HO} {x : Nat × Nat × Nat} (h : Stp τ τ' S H H') (e : H b = some o) (t : τ b = x) (n : x.1 ∉ S) : H' b = some o ∧ τ' b = x :=
  ⟨h.fr b o e (by rw [t]; exact n), (h.ag b (some_ne e)).trans t⟩
end Stp
/-- H p = o, with its tag -/
def At (τ : Tg) (H : Hp) (p : Addr) (o : HO) (x : Nat × Nat × Nat) : Prop := H p = some o ∧ τ p = x
namespace At
variable {τ τ' : Tg} {S : List Nat} {H H' : Hp} {p q : Addr} {o u : HO} {x y : Nat × Nat × Nat}
theorem st (h : At τ H p o x) (s : Stp τ τ' S H H') (n : x.1 ∉ S) : At τ' H' p o x := s.at_ h.1 h.2 n
theorem put (h : At τ H p o x) (t : τ q = y) (n : x ≠ y) : At τ (upd H q u) p o x := ⟨by rw [upd_ne (ne_tag h.2 t n)]; exact h.1, h.2⟩
theorem set (t : τ p = x) : At τ (upd H p o) p o x := ⟨upd_same, t⟩
theorem new (h : At τ H p o x) (n : H q = none) : At (tgN τ q y) (upd H q u) p o x := ⟨by rw [upd_ne (ne_of_none h.1 n)]; exact h.1, (tg_ne (ne_of_none h.1 n)).trans h.2⟩
theorem mk : At (tgN τ p x) (upd H p o) p o x := ⟨upd_same, tg_same⟩
theorem same (h : At τ H p o x) (s : Same H H') : At τ H' p o x := ⟨s _ _ h.1, h.2⟩
end At
theorem Stp.sameN {τ τ' : Tg} {S : List Nat} {H H1 H2 : Hp} {p : Addr} {x : Nat × Nat × Nat} (h : Stp τ τ' S H H1) (s : Same H1 H2) (n : H1 p = none) : Stp τ (tgN τ' p x) S H H2 :=
  h.tr ⟨fun b o e _ => s b o e, fun b e => tg_ne fun z => e (by rw [z]; exact n), (Stp.same (τ := τ) (S := S) s).al⟩
theorem At.sameN {τ : Tg} {H H' : Hp} {p q : Addr} {o : HO} {x y : Nat × Nat × Nat} (h : At τ H p o x) (s : Same H H') (n : H q = none) : At (tgN τ q y) H' p o x := ⟨s _ _ h.1, (tg_ne (ne_of_none h.1 n)).trans h.2⟩
theorem At.in {τ : Tg} {H : Hp} {p : Addr} {o : HO} {x : Nat × Nat × Nat} (e : H p = some o) : At (tgN τ p x) H p o x := ⟨e, tg_same⟩
/-! ### slices -/
theorem cut_lo (xs : List V) (a : Nat) : cutV xs (some (a : Int)) none = xs.drop a := by
  unfold cutV
  rw [HT.sIx_nat, HT.sIx_none]
  by_cases h : a ≤ xs.length
  · rw [Nat.min_eq_left h, List.take_of_length_le (by rw [List.length_drop]; omega)]
  · rw [Nat.min_eq_right (by omega), List.drop_eq_nil_of_le (Nat.le_refl _), List.drop_eq_nil_of_le (show xs.length ≤ a by omega), List.take_nil]
theorem cut_hi (xs : List V) (b : Nat) : cutV xs none (some (b : Int)) = xs.take b := by
  unfold cutV
  rw [HT.sIx_nat, HT.sIx_none, List.drop_zero, Nat.sub_zero]
  by_cases h : b ≤ xs.length
  · rw [Nat.min_eq_left h]
  · rw [Nat.min_eq_right (by omega), List.take_of_length_le (Nat.le_refl _), List.take_of_length_le (show xs.length ≤ b by omega)]
theorem cut_mid (xs : List V) (a b : Nat) (h : a ≤ b) (h2 : b ≤ xs.length) : cutV xs (some (a : Int)) (some (b : Int)) = (xs.drop a).take (b - a) := by
  unfold cutV
  rw [HT.sIx_nat, HT.sIx_nat, Nat.min_eq_left (show a ≤ xs.length by omega), Nat.min_eq_left h2]
theorem rep_int (n : Nat) : (List.replicate n [V.int 0]).flatten = (List.replicate n (0 : Int)).map V.int := by
  induction n with
  | zero => rfl
  | succ n ih => rw [List.replicate_succ, List.flatten_cons, ih, List.replicate_succ]; rfl

/-! ### lists read and written -/
theorem at_map {ys : List Int} {j : Nat} (h : j < ys.length) : (ys.map V.int)[j]? = some (V.int (ys.getD j 0)) := by
  rw [List.getElem?_map, List.getD_eq_getElem?_getD, List.getElem?_eq_getElem h] <;> rfl
theorem ixN_nat {n j : Nat} (h : j < n) : ixN n (j : Int) = some j := by
  unfold ixN
  rw [if_pos (by omega), if_pos (by omega), Int.toNat_natCast]
theorem set_int {ys : List Int} {j : Nat} {w : Int} : (ys.map V.int).set j (V.int w) = (ys.set j w).map V.int := by rw [List.map_set]
theorem rng_at {f : Nat → V} {n k : Nat} (h : k < n) : ((List.range n).map f)[k]? = some (f k) := by simp [h]
theorem rng_len {f : Nat → V} {n : Nat} : ((List.range n).map f).length = n := by simp
theorem rng_drop {f : Nat → V} {n : Nat} : ((List.range (n + 1)).map f).dropLast = (List.range n).map f := by
  rw [List.range_succ, List.map_append]
  exact List.dropLast_concat
theorem rng_up {f g : Nat → V} {n : Nat} (h : ∀ k, k < n → f k = g k) : (List.range n).map f = (List.range n).map g := List.map_congr_left fun k hk => h k (List.mem_range.mp hk)
def upA (f : Nat → Addr) (k : Nat) (y : Addr) : Nat → Addr := fun j => if j = k then y else f j
theorem upA_same {f : Nat → Addr} {k : Nat} {y : Addr} : upA f k y k = y := if_pos rfl
theorem upA_ne {f : Nat → Addr} {k j : Nat} {y : Addr} (h : j ≠ k) : upA f k y j = f j := if_neg h
theorem rng_app {f : Nat → Addr} {n : Nat} {p : Addr} : ((List.range n).map fun k => V.ref (f k)) ++ [V.ref p] = (List.range (n + 1)).map fun k => V.ref (upA f n p k) := by
  rw [List.range_succ, List.map_append]
  congr 1
  · exact rng_up fun k hk => by rw [upA_ne (by omega)]
  · show _ = [V.ref (upA f n p n)]
    rw [upA_same]
theorem sz {n : Nat} (h : n ≤ 900) : n < sizeLine := small1000 (by omega)
theorem mem1 {i : Nat} {x : Nat × Nat × Nat} {τ : Tg} {p : Addr} (h : τ p = x) (e : x.1 = i) : (τ p).1 ∈ [i] := by rw [h, e]; exact List.mem_singleton.mpr rfl

/-! ### xs[lo:hi] = ys -/
section
variable {prog : Program} {w : World} {A : Around} {E : Value → Shared → Prop} {s : Shared}
theorem put_slice {l b z : Addr} {xs ys : Array Value} {n n2 : Nat} {v1 v2 : Value} {lo hi : Option Int} {a c : Nat} {Q : Unit → Shared → Prop} (el : s.heap.get? l = some { cls := .type "list", data := .seq xs n })
    (eb : s.heap.get? b = some { cls := .type "list", data := .seq ys n2 }) (nlb : l ≠ b) (iz : s.heap.IsSliceOf z v1 v2 .none) (p1 : IsPart v1 lo) (p2 : IsPart v2 hi) (ac : a ≤ c) (cn : c ≤ xs.size)
    (bd : sliceBounds lo hi none xs.size = ((a : Int), (c : Int), 1)) (sz1 : xs.size + ys.size ≤ sizeLine) (go : Q () { s with heap := s.heap.update l (Obj.mapSeq fun u => u.extract 0 a ++ ys ++ u.extract c u.size) }) :
    wpAny (model prog w) A (setItem (.ref l) (.ref z) (.ref b)) Q E s := by
  have il : s.heap.IsList l xs := PySem.IsL.isList el
  have ib : s.heap.IsList b ys := PySem.IsL.isList eb
  obtain ⟨oz, ez, cz, dz⟩ := id iz
  have tz : s.TypeIs (.ref z) "slice" := ⟨oz, ez, cz⟩
  have two : Builtin.List.listSameRef (.ref l) (.ref b) = false := by unfold Builtin.List.listSameRef; exact beq_eq_false_iff_ne.mpr nlb
  have mx : (max (a : Int) (c : Int)).toNat = c := by omega
  have fit : ((fun u : Array Value => u.extract 0 a ++ ys ++ u.extract c u.size) xs).size ≤ sizeLine + 1 := by simp only [Array.size_append, Array.size_extract]; omega
  unfold setItem
  try with_reducible refine wpAny_holding ?_
  first | refine wpAny_bind (wpAny_pure ?_) | skip
  refine wpAny_bind (wpAny_sequenceKey il.typeIs (by decide) (wpAny_bind (wpAny_callSpecial?_slot (name := Str.ofString "__setitem__") il.typeIs slot_list_setitem (wpAny_call_entry slot_list_setitem il.typeIs entry_list_setitem ?_ (args_list_setitem _ _ _)))))
  show wpAny _ _ (Builtin.List.listSubscript? (.ref z) >>= _) _ _ s
  refine wpAny_bind ?_; unfold Builtin.List.listSubscript?; refine wpAny_bind (wpAny_specialOf tz slice_no_index ?_)
  simp only [Option.isNone_none, if_true]; refine wpAny_pure ?_
  show wpAny _ _ (typeOf (.ref z) >>= _) _ _ s
  refine wpAny_bind (wpAny_typeOf tz ?_); first | rw [if_neg (by decide)] | refine PySem.W.KFB.if_not (by decide) ?_
  rw [listSliceParts_eq]; refine wpAny_bind (wpAny_bind (wpAny_field ez dz (x := .none) rfl (wpAny_bind (wpAny_listPart .none ?_))))
  rw [if_neg (show ¬ ((rawPart none == rawInt 0) = true) from Bool.false_ne_true)]
  refine wpAny_bind (wpAny_field ez dz (x := v1) rfl (wpAny_bind (wpAny_listPart p1 (wpAny_bind (wpAny_field ez dz (x := v2) rfl (wpAny_bind (wpAny_listPart p2 (wpAny_pure ?_))))))))
  first | simp only [two, Bool.false_eq_true, if_false] | refine PySem.W.KFB.if_not two ?_ | (dsimp only; rw [if_neg (by rw [two]; exact Bool.false_ne_true)])
  refine wpAny_bind (m := Builtin.List.listAllItems (.ref b) "must assign iterable to extended slice") ?_; unfold Builtin.List.listAllItems; refine wpAny_bind (wpAny_typeOf ib.typeIs ?_)
  first | refine PySem.W.KFB.if_so (by decide) ?_ | rw [if_pos (by decide)] | simp only [beq_self_eq_true, Bool.true_or, if_true]
  unfold Builtin.List.listItems; refine wpAny_bind (wpAny_seqItems eb rfl (wpAny_pure (wpAny_bind (wpAny_bind (wpAny_seqItems el rfl (wpAny_pure ?_))))))
  refine wpAny_bind (wpAny_of_eq ((sliceIndices_raw lo hi none xs.size (by simp)).trans (congrArg (pure : Int × Int × Int → Sem (Int × Int × Int)) bd)) ?_)
  show wpAny _ _ (if ((1 : Int) == 1) = true then _ else _) _ _ s; rw [if_pos (by decide)]; refine wpAny_bind (wpAny_rule ?_)
  first | simp only [notLongL sz1, Bool.false_eq_true, if_false] | refine PySem.W.KFB.if_not (notLongL sz1) ?_
  first | refine wpAny_bind (wpAny_pure ?_) | skip
  show wpAny _ _ (updateSeq l (fun u => u.extract 0 ((a : Int)).toNat ++ ys ++ u.extract (max (a : Int) (c : Int)).toNat u.size) >>= _) _ _ s
  rw [mx, Int.toNat_natCast]; refine wpAny_bind (wpAny_updateSeq (hz := Nat.le_trans (Nat.le_add_right _ _) sz1) (_hz' := fit) el rfl (wpAny_bind (wpAny_letGo ?_)))
  first | exact wpAny_bind (wpAny_pure (wpAny_pure ⟨.none, rfl, wpAny_pure go⟩)) | exact wpAny_pure ⟨.none, rfl, wpAny_pure go⟩
end
section
variable {X : Cx}
def gSlc (to : TE) (tl th : TO) : TG := fun v σ H Q => to σ H fun o H1 => tl σ H1 fun lo H2 => th σ H2 fun hi H3 => ∃ (l b : Addr) (xs ys : List V) (i c : Nat), o = .ref l ∧ v = .ref b ∧ H3 l = some (.lst xs) ∧ H3 b = some (.lst ys) ∧ l ≠ b ∧ i ≤ c ∧ c ≤ xs.length ∧
  sliceBounds lo hi none xs.length = ((i : Int), (c : Int), 1) ∧ xs.length + ys.length ≤ sizeLine ∧ Q σ (upd H3 l (.lst (xs.take i ++ ys ++ xs.drop c)))
theorem pg_slc {o : Expr} {lo hi : Option Expr} {p2 pos : Pos} {to : TE} {tl th : TO} (ho : PE X o to) (hl : PO X lo tl) (hh : PO X hi th)
    (ha : ∀ v, assign (.Subscript o (.Slice lo hi none p2) pos) X.env v = (do
      let u ← holding [v] (eval o X.env)
      let y ← holding [v, u] (eval (.Slice lo hi none p2) X.env)
      standAt pos
      holding [v, u, y] (setItem u y v)
      release [y, v, u] []) := by intro _; rfl) : PG X (.Subscript o (.Slice lo hi none p2) pos) (gSlc to tl th) := by
  refine ⟨fun pins s σ H v u Q I r h => ?_⟩
  rw [ha]
  refine wpAny_bind (wpAny_holding (thn (ho.run pins s σ H _ I h) fun ov s1 ⟨x, H1, I1, r1, q1⟩ => ?_))
  refine wpAny_bind (wpAny_holding (wpAny_Slice (thn (hl.run pins s1 σ H1 _ I1 q1) fun vl s2 ⟨k1, H2, I2, pl, q2⟩ => thn (hh.run pins s2 σ H2 _ I2 q2) fun vu s3 ⟨k2, H3, I3, pu, q3⟩ => ?_)))
  rw [evalPart_none]
  refine wpAny_pure ?_
  have I4 : Inv X pins σ H3 { s3 with heap := s3.heap.push { cls := .type "slice", data := .fields #[vl, vu, .none] } } := I3.kept (t' := s3.toks) fun b ob q => Heap.get?_push_of_some _ q
  obtain ⟨l, b, xs, ys, i, c, rfl, rfl, hx, hy, ne, ic, cx, bd, sz1, q⟩ := q3
  obtain rfl : ov = Value.ref l := r1
  obtain rfl : u = Value.ref b := r
  refine wpAny_bind (wpAny_standAt (wpAny_bind (wpAny_holding ?_)))
  obtain ⟨z, its, n, r, el, e⟩ := I4.lstM hx
  obtain ⟨z2, its2, n2, r2, el2, e2⟩ := I4.lstM hy
  refine put_slice (a := i) (c := c) e e2 ne (Heap.IsSliceOf.new ..) pl pu ic (by rw [List.size_toArray]; omega) (by rw [List.size_toArray, ← el]; exact bd) (by rw [List.size_toArray, List.size_toArray]; omega) (wpAny_release ⟨σ, _, ?_, q⟩)
  refine I4.lset (its' := its.take i ++ its2 ++ its.drop c) (t' := s3.toks) hx e (splice_eq its its2 i c) (Vals.append (Vals.append (r.take _) r2) (r.drop _)) (by rw [List.length_append, List.length_append, List.length_take, List.length_drop]; omega)
end

theorem rgf_e0_1 : (("depth" : Str) == "spills") = false := by decide +kernel
theorem rgf_q0_1 : (("depth" : Str) = "spills") = False := by simp only [eq_iff_iff, iff_false]; decide +kernel
theorem rgf_e0_2 : (("depth" : Str) == "fills") = false := by decide +kernel
theorem rgf_q0_2 : (("depth" : Str) = "fills") = False := by simp only [eq_iff_iff, iff_false]; decide +kernel
theorem rgf_e0_3 : (("depth" : Str) == "resident") = false := by decide +kernel
theorem rgf_q0_3 : (("depth" : Str) = "resident") = False := by simp only [eq_iff_iff, iff_false]; decide +kernel
theorem rgf_e0_4 : (("depth" : Str) == "_memory") = false := by decide +kernel
theorem rgf_q0_4 : (("depth" : Str) = "_memory") = False := by simp only [eq_iff_iff, iff_false]; decide +kernel
theorem rgf_e0_5 : (("depth" : Str) == "_most") = false := by decide +kernel
theorem rgf_q0_5 : (("depth" : Str) = "_most") = False := by simp only [eq_iff_iff, iff_false]; decide +kernel
theorem rgf_e0_6 : (("depth" : Str) == "_view") = false := by decide +kernel
theorem rgf_q0_6 : (("depth" : Str) = "_view") = False := by simp only [eq_iff_iff, iff_false]; decide +kernel
theorem rgf_e0_7 : (("depth" : Str) == "_above") = false := by decide +kernel
theorem rgf_q0_7 : (("depth" : Str) = "_above") = False := by simp only [eq_iff_iff, iff_false]; decide +kernel
theorem rgf_e1_0 : (("spills" : Str) == "depth") = false := by decide +kernel
theorem rgf_q1_0 : (("spills" : Str) = "depth") = False := by simp only [eq_iff_iff, iff_false]; decide +kernel
theorem rgf_e1_2 : (("spills" : Str) == "fills") = false := by decide +kernel
theorem rgf_q1_2 : (("spills" : Str) = "fills") = False := by simp only [eq_iff_iff, iff_false]; decide +kernel
theorem rgf_e1_3 : (("spills" : Str) == "resident") = false := by decide +kernel
theorem rgf_q1_3 : (("spills" : Str) = "resident") = False := by simp only [eq_iff_iff, iff_false]; decide +kernel
theorem rgf_e1_4 : (("spills" : Str) == "_memory") = false := by decide +kernel
theorem rgf_q1_4 : (("spills" : Str) = "_memory") = False := by simp only [eq_iff_iff, iff_false]; decide +kernel
theorem rgf_e1_5 : (("spills" : Str) == "_most") = false := by decide +kernel
theorem rgf_q1_5 : (("spills" : Str) = "_most") = False := by simp only [eq_iff_iff, iff_false]; decide +kernel
theorem rgf_e1_6 : (("spills" : Str) == "_view") = false := by decide +kernel
theorem rgf_q1_6 : (("spills" : Str) = "_view") = False := by simp only [eq_iff_iff, iff_false]; decide +kernel
theorem rgf_e1_7 : (("spills" : Str) == "_above") = false := by decide +kernel
theorem rgf_q1_7 : (("spills" : Str) = "_above") = False := by simp only [eq_iff_iff, iff_false]; decide +kernel
theorem rgf_e2_0 : (("fills" : Str) == "depth") = false := by decide +kernel
theorem rgf_q2_0 : (("fills" : Str) = "depth") = False := by simp only [eq_iff_iff, iff_false]; decide +kernel
theorem rgf_e2_1 : (("fills" : Str) == "spills") = false := by decide +kernel
theorem rgf_q2_1 : (("fills" : Str) = "spills") = False := by simp only [eq_iff_iff, iff_false]; decide +kernel
theorem rgf_e2_3 : (("fills" : Str) == "resident") = false := by decide +kernel
theorem rgf_q2_3 : (("fills" : Str) = "resident") = False := by simp only [eq_iff_iff, iff_false]; decide +kernel
theorem rgf_e2_4 : (("fills" : Str) == "_memory") = false := by decide +kernel
theorem rgf_q2_4 : (("fills" : Str) = "_memory") = False := by simp only [eq_iff_iff, iff_false]; decide +kernel
theorem rgf_e2_5 : (("fills" : Str) == "_most") = false := by decide +kernel
theorem rgf_q2_5 : (("fills" : Str) = "_most") = False := by simp only [eq_iff_iff, iff_false]; decide +kernel
theorem rgf_e2_6 : (("fills" : Str) == "_view") = false := by decide +kernel
theorem rgf_q2_6 : (("fills" : Str) = "_view") = False := by simp only [eq_iff_iff, iff_false]; decide +kernel
theorem rgf_e2_7 : (("fills" : Str) == "_above") = false := by decide +kernel
theorem rgf_q2_7 : (("fills" : Str) = "_above") = False := by simp only [eq_iff_iff, iff_false]; decide +kernel
theorem rgf_e3_0 : (("resident" : Str) == "depth") = false := by decide +kernel
theorem rgf_q3_0 : (("resident" : Str) = "depth") = False := by simp only [eq_iff_iff, iff_false]; decide +kernel
theorem rgf_e3_1 : (("resident" : Str) == "spills") = false := by decide +kernel
theorem rgf_q3_1 : (("resident" : Str) = "spills") = False := by simp only [eq_iff_iff, iff_false]; decide +kernel
theorem rgf_e3_2 : (("resident" : Str) == "fills") = false := by decide +kernel
theorem rgf_q3_2 : (("resident" : Str) = "fills") = False := by simp only [eq_iff_iff, iff_false]; decide +kernel
theorem rgf_e3_4 : (("resident" : Str) == "_memory") = false := by decide +kernel
theorem rgf_q3_4 : (("resident" : Str) = "_memory") = False := by simp only [eq_iff_iff, iff_false]; decide +kernel
theorem rgf_e3_5 : (("resident" : Str) == "_most") = false := by decide +kernel
theorem rgf_q3_5 : (("resident" : Str) = "_most") = False := by simp only [eq_iff_iff, iff_false]; decide +kernel
theorem rgf_e3_6 : (("resident" : Str) == "_view") = false := by decide +kernel
theorem rgf_q3_6 : (("resident" : Str) = "_view") = False := by simp only [eq_iff_iff, iff_false]; decide +kernel
theorem rgf_e3_7 : (("resident" : Str) == "_above") = false := by decide +kernel
theorem rgf_q3_7 : (("resident" : Str) = "_above") = False := by simp only [eq_iff_iff, iff_false]; decide +kernel
theorem rgf_e4_0 : (("_memory" : Str) == "depth") = false := by decide +kernel
theorem rgf_q4_0 : (("_memory" : Str) = "depth") = False := by simp only [eq_iff_iff, iff_false]; decide +kernel
theorem rgf_e4_1 : (("_memory" : Str) == "spills") = false := by decide +kernel
theorem rgf_q4_1 : (("_memory" : Str) = "spills") = False := by simp only [eq_iff_iff, iff_false]; decide +kernel
theorem rgf_e4_2 : (("_memory" : Str) == "fills") = false := by decide +kernel
theorem rgf_q4_2 : (("_memory" : Str) = "fills") = False := by simp only [eq_iff_iff, iff_false]; decide +kernel
theorem rgf_e4_3 : (("_memory" : Str) == "resident") = false := by decide +kernel
theorem rgf_q4_3 : (("_memory" : Str) = "resident") = False := by simp only [eq_iff_iff, iff_false]; decide +kernel
theorem rgf_e4_5 : (("_memory" : Str) == "_most") = false := by decide +kernel
theorem rgf_q4_5 : (("_memory" : Str) = "_most") = False := by simp only [eq_iff_iff, iff_false]; decide +kernel
theorem rgf_e4_6 : (("_memory" : Str) == "_view") = false := by decide +kernel
theorem rgf_q4_6 : (("_memory" : Str) = "_view") = False := by simp only [eq_iff_iff, iff_false]; decide +kernel
theorem rgf_e4_7 : (("_memory" : Str) == "_above") = false := by decide +kernel
theorem rgf_q4_7 : (("_memory" : Str) = "_above") = False := by simp only [eq_iff_iff, iff_false]; decide +kernel
theorem rgf_e5_0 : (("_most" : Str) == "depth") = false := by decide +kernel
theorem rgf_q5_0 : (("_most" : Str) = "depth") = False := by simp only [eq_iff_iff, iff_false]; decide +kernel
theorem rgf_e5_1 : (("_most" : Str) == "spills") = false := by decide +kernel
theorem rgf_q5_1 : (("_most" : Str) = "spills") = False := by simp only [eq_iff_iff, iff_false]; decide +kernel
theorem rgf_e5_2 : (("_most" : Str) == "fills") = false := by decide +kernel
theorem rgf_q5_2 : (("_most" : Str) = "fills") = False := by simp only [eq_iff_iff, iff_false]; decide +kernel
theorem rgf_e5_3 : (("_most" : Str) == "resident") = false := by decide +kernel
theorem rgf_q5_3 : (("_most" : Str) = "resident") = False := by simp only [eq_iff_iff, iff_false]; decide +kernel
theorem rgf_e5_4 : (("_most" : Str) == "_memory") = false := by decide +kernel
theorem rgf_q5_4 : (("_most" : Str) = "_memory") = False := by simp only [eq_iff_iff, iff_false]; decide +kernel
theorem rgf_e5_6 : (("_most" : Str) == "_view") = false := by decide +kernel
theorem rgf_q5_6 : (("_most" : Str) = "_view") = False := by simp only [eq_iff_iff, iff_false]; decide +kernel
theorem rgf_e5_7 : (("_most" : Str) == "_above") = false := by decide +kernel
theorem rgf_q5_7 : (("_most" : Str) = "_above") = False := by simp only [eq_iff_iff, iff_false]; decide +kernel
theorem rgf_e6_0 : (("_view" : Str) == "depth") = false := by decide +kernel
theorem rgf_q6_0 : (("_view" : Str) = "depth") = False := by simp only [eq_iff_iff, iff_false]; decide +kernel
theorem rgf_e6_1 : (("_view" : Str) == "spills") = false := by decide +kernel
theorem rgf_q6_1 : (("_view" : Str) = "spills") = False := by simp only [eq_iff_iff, iff_false]; decide +kernel
theorem rgf_e6_2 : (("_view" : Str) == "fills") = false := by decide +kernel
theorem rgf_q6_2 : (("_view" : Str) = "fills") = False := by simp only [eq_iff_iff, iff_false]; decide +kernel
theorem rgf_e6_3 : (("_view" : Str) == "resident") = false := by decide +kernel
theorem rgf_q6_3 : (("_view" : Str) = "resident") = False := by simp only [eq_iff_iff, iff_false]; decide +kernel
theorem rgf_e6_4 : (("_view" : Str) == "_memory") = false := by decide +kernel
theorem rgf_q6_4 : (("_view" : Str) = "_memory") = False := by simp only [eq_iff_iff, iff_false]; decide +kernel
theorem rgf_e6_5 : (("_view" : Str) == "_most") = false := by decide +kernel
theorem rgf_q6_5 : (("_view" : Str) = "_most") = False := by simp only [eq_iff_iff, iff_false]; decide +kernel
theorem rgf_e6_7 : (("_view" : Str) == "_above") = false := by decide +kernel
theorem rgf_q6_7 : (("_view" : Str) = "_above") = False := by simp only [eq_iff_iff, iff_false]; decide +kernel
theorem rgf_e7_0 : (("_above" : Str) == "depth") = false := by decide +kernel
theorem rgf_q7_0 : (("_above" : Str) = "depth") = False := by simp only [eq_iff_iff, iff_false]; decide +kernel
theorem rgf_e7_1 : (("_above" : Str) == "spills") = false := by decide +kernel
theorem rgf_q7_1 : (("_above" : Str) = "spills") = False := by simp only [eq_iff_iff, iff_false]; decide +kernel
theorem rgf_e7_2 : (("_above" : Str) == "fills") = false := by decide +kernel
theorem rgf_q7_2 : (("_above" : Str) = "fills") = False := by simp only [eq_iff_iff, iff_false]; decide +kernel
theorem rgf_e7_3 : (("_above" : Str) == "resident") = false := by decide +kernel
theorem rgf_q7_3 : (("_above" : Str) = "resident") = False := by simp only [eq_iff_iff, iff_false]; decide +kernel
theorem rgf_e7_4 : (("_above" : Str) == "_memory") = false := by decide +kernel
theorem rgf_q7_4 : (("_above" : Str) = "_memory") = False := by simp only [eq_iff_iff, iff_false]; decide +kernel
theorem rgf_e7_5 : (("_above" : Str) == "_most") = false := by decide +kernel
theorem rgf_q7_5 : (("_above" : Str) = "_most") = False := by simp only [eq_iff_iff, iff_false]; decide +kernel
theorem rgf_e7_6 : (("_above" : Str) == "_view") = false := by decide +kernel
theorem rgf_q7_6 : (("_above" : Str) = "_view") = False := by simp only [eq_iff_iff, iff_false]; decide +kernel
def rgf (x0 : Int) (x1 : Int) (x2 : Int) (x3 : Int) (x4 : Addr) (x5 : Int) (x6 : Addr) (x7 : Addr) : List (Str × V) := [("depth", .int x0), ("spills", .int x1), ("fills", .int x2), ("resident", .int x3), ("_memory", .ref x4), ("_most", .int x5), ("_view", .ref x6), ("_above", .ref x7)]
theorem rgf_depth (x0 : Int) (x1 : Int) (x2 : Int) (x3 : Int) (x4 : Addr) (x5 : Int) (x6 : Addr) (x7 : Addr) : (rgf x0 x1 x2 x3 x4 x5 x6 x7).lookup ("depth" : Str) = some (V.int x0) := by simp [rgf, List.lookup, rgf]
theorem rgf_spills (x0 : Int) (x1 : Int) (x2 : Int) (x3 : Int) (x4 : Addr) (x5 : Int) (x6 : Addr) (x7 : Addr) : (rgf x0 x1 x2 x3 x4 x5 x6 x7).lookup ("spills" : Str) = some (V.int x1) := by simp [rgf, List.lookup, rgf_e1_0]
theorem rgf_fills (x0 : Int) (x1 : Int) (x2 : Int) (x3 : Int) (x4 : Addr) (x5 : Int) (x6 : Addr) (x7 : Addr) : (rgf x0 x1 x2 x3 x4 x5 x6 x7).lookup ("fills" : Str) = some (V.int x2) := by simp [rgf, List.lookup, rgf_e2_0, rgf_e2_1]
theorem rgf_resident (x0 : Int) (x1 : Int) (x2 : Int) (x3 : Int) (x4 : Addr) (x5 : Int) (x6 : Addr) (x7 : Addr) : (rgf x0 x1 x2 x3 x4 x5 x6 x7).lookup ("resident" : Str) = some (V.int x3) := by simp [rgf, List.lookup, rgf_e3_0, rgf_e3_1, rgf_e3_2]
theorem rgf__memory (x0 : Int) (x1 : Int) (x2 : Int) (x3 : Int) (x4 : Addr) (x5 : Int) (x6 : Addr) (x7 : Addr) : (rgf x0 x1 x2 x3 x4 x5 x6 x7).lookup ("_memory" : Str) = some (V.ref x4) := by simp [rgf, List.lookup, rgf_e4_0, rgf_e4_1, rgf_e4_2, rgf_e4_3]
theorem rgf__most (x0 : Int) (x1 : Int) (x2 : Int) (x3 : Int) (x4 : Addr) (x5 : Int) (x6 : Addr) (x7 : Addr) : (rgf x0 x1 x2 x3 x4 x5 x6 x7).lookup ("_most" : Str) = some (V.int x5) := by simp [rgf, List.lookup, rgf_e5_0, rgf_e5_1, rgf_e5_2, rgf_e5_3, rgf_e5_4]
theorem rgf__view (x0 : Int) (x1 : Int) (x2 : Int) (x3 : Int) (x4 : Addr) (x5 : Int) (x6 : Addr) (x7 : Addr) : (rgf x0 x1 x2 x3 x4 x5 x6 x7).lookup ("_view" : Str) = some (V.ref x6) := by simp [rgf, List.lookup, rgf_e6_0, rgf_e6_1, rgf_e6_2, rgf_e6_3, rgf_e6_4, rgf_e6_5]
theorem rgf__above (x0 : Int) (x1 : Int) (x2 : Int) (x3 : Int) (x4 : Addr) (x5 : Int) (x6 : Addr) (x7 : Addr) : (rgf x0 x1 x2 x3 x4 x5 x6 x7).lookup ("_above" : Str) = some (V.ref x7) := by simp [rgf, List.lookup, rgf_e7_0, rgf_e7_1, rgf_e7_2, rgf_e7_3, rgf_e7_4, rgf_e7_5, rgf_e7_6]
theorem rgf_mread_0 : (("read" : Str) == "depth") = false := by decide +kernel
theorem rgf_mread_1 : (("read" : Str) == "spills") = false := by decide +kernel
theorem rgf_mread_2 : (("read" : Str) == "fills") = false := by decide +kernel
theorem rgf_mread_3 : (("read" : Str) == "resident") = false := by decide +kernel
theorem rgf_mread_4 : (("read" : Str) == "_memory") = false := by decide +kernel
theorem rgf_mread_5 : (("read" : Str) == "_most") = false := by decide +kernel
theorem rgf_mread_6 : (("read" : Str) == "_view") = false := by decide +kernel
theorem rgf_mread_7 : (("read" : Str) == "_above") = false := by decide +kernel
theorem rgf_no_read (x0 : Int) (x1 : Int) (x2 : Int) (x3 : Int) (x4 : Addr) (x5 : Int) (x6 : Addr) (x7 : Addr) : (rgf x0 x1 x2 x3 x4 x5 x6 x7).lookup ("read" : Str) = none := by simp [rgf, List.lookup, rgf_mread_0, rgf_mread_1, rgf_mread_2, rgf_mread_3, rgf_mread_4, rgf_mread_5, rgf_mread_6, rgf_mread_7]
theorem rgf_mwrite_0 : (("write" : Str) == "depth") = false := by decide +kernel
theorem rgf_mwrite_1 : (("write" : Str) == "spills") = false := by decide +kernel
theorem rgf_mwrite_2 : (("write" : Str) == "fills") = false := by decide +kernel
theorem rgf_mwrite_3 : (("write" : Str) == "resident") = false := by decide +kernel
theorem rgf_mwrite_4 : (("write" : Str) == "_memory") = false := by decide +kernel
theorem rgf_mwrite_5 : (("write" : Str) == "_most") = false := by decide +kernel
theorem rgf_mwrite_6 : (("write" : Str) == "_view") = false := by decide +kernel
theorem rgf_mwrite_7 : (("write" : Str) == "_above") = false := by decide +kernel
theorem rgf_no_write (x0 : Int) (x1 : Int) (x2 : Int) (x3 : Int) (x4 : Addr) (x5 : Int) (x6 : Addr) (x7 : Addr) : (rgf x0 x1 x2 x3 x4 x5 x6 x7).lookup ("write" : Str) = none := by simp [rgf, List.lookup, rgf_mwrite_0, rgf_mwrite_1, rgf_mwrite_2, rgf_mwrite_3, rgf_mwrite_4, rgf_mwrite_5, rgf_mwrite_6, rgf_mwrite_7]
theorem rgf_mshift_down_0 : (("shift_down" : Str) == "depth") = false := by decide +kernel
theorem rgf_mshift_down_1 : (("shift_down" : Str) == "spills") = false := by decide +kernel
theorem rgf_mshift_down_2 : (("shift_down" : Str) == "fills") = false := by decide +kernel
theorem rgf_mshift_down_3 : (("shift_down" : Str) == "resident") = false := by decide +kernel
theorem rgf_mshift_down_4 : (("shift_down" : Str) == "_memory") = false := by decide +kernel
theorem rgf_mshift_down_5 : (("shift_down" : Str) == "_most") = false := by decide +kernel
theorem rgf_mshift_down_6 : (("shift_down" : Str) == "_view") = false := by decide +kernel
theorem rgf_mshift_down_7 : (("shift_down" : Str) == "_above") = false := by decide +kernel
theorem rgf_no_shift_down (x0 : Int) (x1 : Int) (x2 : Int) (x3 : Int) (x4 : Addr) (x5 : Int) (x6 : Addr) (x7 : Addr) : (rgf x0 x1 x2 x3 x4 x5 x6 x7).lookup ("shift_down" : Str) = none := by simp [rgf, List.lookup, rgf_mshift_down_0, rgf_mshift_down_1, rgf_mshift_down_2, rgf_mshift_down_3, rgf_mshift_down_4, rgf_mshift_down_5, rgf_mshift_down_6, rgf_mshift_down_7]
theorem rgf_mshift_up_0 : (("shift_up" : Str) == "depth") = false := by decide +kernel
theorem rgf_mshift_up_1 : (("shift_up" : Str) == "spills") = false := by decide +kernel
theorem rgf_mshift_up_2 : (("shift_up" : Str) == "fills") = false := by decide +kernel
theorem rgf_mshift_up_3 : (("shift_up" : Str) == "resident") = false := by decide +kernel
theorem rgf_mshift_up_4 : (("shift_up" : Str) == "_memory") = false := by decide +kernel
theorem rgf_mshift_up_5 : (("shift_up" : Str) == "_most") = false := by decide +kernel
theorem rgf_mshift_up_6 : (("shift_up" : Str) == "_view") = false := by decide +kernel
theorem rgf_mshift_up_7 : (("shift_up" : Str) == "_above") = false := by decide +kernel
theorem rgf_no_shift_up (x0 : Int) (x1 : Int) (x2 : Int) (x3 : Int) (x4 : Addr) (x5 : Int) (x6 : Addr) (x7 : Addr) : (rgf x0 x1 x2 x3 x4 x5 x6 x7).lookup ("shift_up" : Str) = none := by simp [rgf, List.lookup, rgf_mshift_up_0, rgf_mshift_up_1, rgf_mshift_up_2, rgf_mshift_up_3, rgf_mshift_up_4, rgf_mshift_up_5, rgf_mshift_up_6, rgf_mshift_up_7]
theorem rgf_mblocked_down_0 : (("blocked_down" : Str) == "depth") = false := by decide +kernel
theorem rgf_mblocked_down_1 : (("blocked_down" : Str) == "spills") = false := by decide +kernel
theorem rgf_mblocked_down_2 : (("blocked_down" : Str) == "fills") = false := by decide +kernel
theorem rgf_mblocked_down_3 : (("blocked_down" : Str) == "resident") = false := by decide +kernel
theorem rgf_mblocked_down_4 : (("blocked_down" : Str) == "_memory") = false := by decide +kernel
theorem rgf_mblocked_down_5 : (("blocked_down" : Str) == "_most") = false := by decide +kernel
theorem rgf_mblocked_down_6 : (("blocked_down" : Str) == "_view") = false := by decide +kernel
theorem rgf_mblocked_down_7 : (("blocked_down" : Str) == "_above") = false := by decide +kernel
theorem rgf_no_blocked_down (x0 : Int) (x1 : Int) (x2 : Int) (x3 : Int) (x4 : Addr) (x5 : Int) (x6 : Addr) (x7 : Addr) : (rgf x0 x1 x2 x3 x4 x5 x6 x7).lookup ("blocked_down" : Str) = none := by simp [rgf, List.lookup, rgf_mblocked_down_0, rgf_mblocked_down_1, rgf_mblocked_down_2, rgf_mblocked_down_3, rgf_mblocked_down_4, rgf_mblocked_down_5, rgf_mblocked_down_6, rgf_mblocked_down_7]
theorem rgf_mblocked_up_0 : (("blocked_up" : Str) == "depth") = false := by decide +kernel
theorem rgf_mblocked_up_1 : (("blocked_up" : Str) == "spills") = false := by decide +kernel
theorem rgf_mblocked_up_2 : (("blocked_up" : Str) == "fills") = false := by decide +kernel
theorem rgf_mblocked_up_3 : (("blocked_up" : Str) == "resident") = false := by decide +kernel
theorem rgf_mblocked_up_4 : (("blocked_up" : Str) == "_memory") = false := by decide +kernel
theorem rgf_mblocked_up_5 : (("blocked_up" : Str) == "_most") = false := by decide +kernel
theorem rgf_mblocked_up_6 : (("blocked_up" : Str) == "_view") = false := by decide +kernel
theorem rgf_mblocked_up_7 : (("blocked_up" : Str) == "_above") = false := by decide +kernel
theorem rgf_no_blocked_up (x0 : Int) (x1 : Int) (x2 : Int) (x3 : Int) (x4 : Addr) (x5 : Int) (x6 : Addr) (x7 : Addr) : (rgf x0 x1 x2 x3 x4 x5 x6 x7).lookup ("blocked_up" : Str) = none := by simp [rgf, List.lookup, rgf_mblocked_up_0, rgf_mblocked_up_1, rgf_mblocked_up_2, rgf_mblocked_up_3, rgf_mblocked_up_4, rgf_mblocked_up_5, rgf_mblocked_up_6, rgf_mblocked_up_7]
theorem rgf_m_spill_0 : (("_spill" : Str) == "depth") = false := by decide +kernel
theorem rgf_m_spill_1 : (("_spill" : Str) == "spills") = false := by decide +kernel
theorem rgf_m_spill_2 : (("_spill" : Str) == "fills") = false := by decide +kernel
theorem rgf_m_spill_3 : (("_spill" : Str) == "resident") = false := by decide +kernel
theorem rgf_m_spill_4 : (("_spill" : Str) == "_memory") = false := by decide +kernel
theorem rgf_m_spill_5 : (("_spill" : Str) == "_most") = false := by decide +kernel
theorem rgf_m_spill_6 : (("_spill" : Str) == "_view") = false := by decide +kernel
theorem rgf_m_spill_7 : (("_spill" : Str) == "_above") = false := by decide +kernel
theorem rgf_no__spill (x0 : Int) (x1 : Int) (x2 : Int) (x3 : Int) (x4 : Addr) (x5 : Int) (x6 : Addr) (x7 : Addr) : (rgf x0 x1 x2 x3 x4 x5 x6 x7).lookup ("_spill" : Str) = none := by simp [rgf, List.lookup, rgf_m_spill_0, rgf_m_spill_1, rgf_m_spill_2, rgf_m_spill_3, rgf_m_spill_4, rgf_m_spill_5, rgf_m_spill_6, rgf_m_spill_7]
theorem rgf_m_fill_0 : (("_fill" : Str) == "depth") = false := by decide +kernel
theorem rgf_m_fill_1 : (("_fill" : Str) == "spills") = false := by decide +kernel
theorem rgf_m_fill_2 : (("_fill" : Str) == "fills") = false := by decide +kernel
theorem rgf_m_fill_3 : (("_fill" : Str) == "resident") = false := by decide +kernel
theorem rgf_m_fill_4 : (("_fill" : Str) == "_memory") = false := by decide +kernel
theorem rgf_m_fill_5 : (("_fill" : Str) == "_most") = false := by decide +kernel
theorem rgf_m_fill_6 : (("_fill" : Str) == "_view") = false := by decide +kernel
theorem rgf_m_fill_7 : (("_fill" : Str) == "_above") = false := by decide +kernel
theorem rgf_no__fill (x0 : Int) (x1 : Int) (x2 : Int) (x3 : Int) (x4 : Addr) (x5 : Int) (x6 : Addr) (x7 : Addr) : (rgf x0 x1 x2 x3 x4 x5 x6 x7).lookup ("_fill" : Str) = none := by simp [rgf, List.lookup, rgf_m_fill_0, rgf_m_fill_1, rgf_m_fill_2, rgf_m_fill_3, rgf_m_fill_4, rgf_m_fill_5, rgf_m_fill_6, rgf_m_fill_7]
theorem rgf_m_save_area_0 : (("_save_area" : Str) == "depth") = false := by decide +kernel
theorem rgf_m_save_area_1 : (("_save_area" : Str) == "spills") = false := by decide +kernel
theorem rgf_m_save_area_2 : (("_save_area" : Str) == "fills") = false := by decide +kernel
theorem rgf_m_save_area_3 : (("_save_area" : Str) == "resident") = false := by decide +kernel
theorem rgf_m_save_area_4 : (("_save_area" : Str) == "_memory") = false := by decide +kernel
theorem rgf_m_save_area_5 : (("_save_area" : Str) == "_most") = false := by decide +kernel
theorem rgf_m_save_area_6 : (("_save_area" : Str) == "_view") = false := by decide +kernel
theorem rgf_m_save_area_7 : (("_save_area" : Str) == "_above") = false := by decide +kernel
theorem rgf_no__save_area (x0 : Int) (x1 : Int) (x2 : Int) (x3 : Int) (x4 : Addr) (x5 : Int) (x6 : Addr) (x7 : Addr) : (rgf x0 x1 x2 x3 x4 x5 x6 x7).lookup ("_save_area" : Str) = none := by simp [rgf, List.lookup, rgf_m_save_area_0, rgf_m_save_area_1, rgf_m_save_area_2, rgf_m_save_area_3, rgf_m_save_area_4, rgf_m_save_area_5, rgf_m_save_area_6, rgf_m_save_area_7]
theorem rgf_put_depth (x0 : Int) (x1 : Int) (x2 : Int) (x3 : Int) (x4 : Addr) (x5 : Int) (x6 : Addr) (x7 : Addr) (y : Int) : putF "depth" (V.int y) (rgf x0 x1 x2 x3 x4 x5 x6 x7) = rgf y x1 x2 x3 x4 x5 x6 x7 := by simp [putF, rgf, rgf_q1_0, rgf_q2_0, rgf_q3_0, rgf_q4_0, rgf_q5_0, rgf_q6_0, rgf_q7_0]
theorem rgf_put_spills (x0 : Int) (x1 : Int) (x2 : Int) (x3 : Int) (x4 : Addr) (x5 : Int) (x6 : Addr) (x7 : Addr) (y : Int) : putF "spills" (V.int y) (rgf x0 x1 x2 x3 x4 x5 x6 x7) = rgf x0 y x2 x3 x4 x5 x6 x7 := by simp [putF, rgf, rgf_q0_1, rgf_q2_1, rgf_q3_1, rgf_q4_1, rgf_q5_1, rgf_q6_1, rgf_q7_1]
theorem rgf_put_fills (x0 : Int) (x1 : Int) (x2 : Int) (x3 : Int) (x4 : Addr) (x5 : Int) (x6 : Addr) (x7 : Addr) (y : Int) : putF "fills" (V.int y) (rgf x0 x1 x2 x3 x4 x5 x6 x7) = rgf x0 x1 y x3 x4 x5 x6 x7 := by simp [putF, rgf, rgf_q0_2, rgf_q1_2, rgf_q3_2, rgf_q4_2, rgf_q5_2, rgf_q6_2, rgf_q7_2]
theorem rgf_put_resident (x0 : Int) (x1 : Int) (x2 : Int) (x3 : Int) (x4 : Addr) (x5 : Int) (x6 : Addr) (x7 : Addr) (y : Int) : putF "resident" (V.int y) (rgf x0 x1 x2 x3 x4 x5 x6 x7) = rgf x0 x1 x2 y x4 x5 x6 x7 := by simp [putF, rgf, rgf_q0_3, rgf_q1_3, rgf_q2_3, rgf_q4_3, rgf_q5_3, rgf_q6_3, rgf_q7_3]
theorem rgf_put__memory (x0 : Int) (x1 : Int) (x2 : Int) (x3 : Int) (x4 : Addr) (x5 : Int) (x6 : Addr) (x7 : Addr) (y : Addr) : putF "_memory" (V.ref y) (rgf x0 x1 x2 x3 x4 x5 x6 x7) = rgf x0 x1 x2 x3 y x5 x6 x7 := by simp [putF, rgf, rgf_q0_4, rgf_q1_4, rgf_q2_4, rgf_q3_4, rgf_q5_4, rgf_q6_4, rgf_q7_4]
theorem rgf_put__most (x0 : Int) (x1 : Int) (x2 : Int) (x3 : Int) (x4 : Addr) (x5 : Int) (x6 : Addr) (x7 : Addr) (y : Int) : putF "_most" (V.int y) (rgf x0 x1 x2 x3 x4 x5 x6 x7) = rgf x0 x1 x2 x3 x4 y x6 x7 := by simp [putF, rgf, rgf_q0_5, rgf_q1_5, rgf_q2_5, rgf_q3_5, rgf_q4_5, rgf_q6_5, rgf_q7_5]
theorem rgf_put__view (x0 : Int) (x1 : Int) (x2 : Int) (x3 : Int) (x4 : Addr) (x5 : Int) (x6 : Addr) (x7 : Addr) (y : Addr) : putF "_view" (V.ref y) (rgf x0 x1 x2 x3 x4 x5 x6 x7) = rgf x0 x1 x2 x3 x4 x5 y x7 := by simp [putF, rgf, rgf_q0_6, rgf_q1_6, rgf_q2_6, rgf_q3_6, rgf_q4_6, rgf_q5_6, rgf_q7_6]
theorem rgf_put__above (x0 : Int) (x1 : Int) (x2 : Int) (x3 : Int) (x4 : Addr) (x5 : Int) (x6 : Addr) (x7 : Addr) (y : Addr) : putF "_above" (V.ref y) (rgf x0 x1 x2 x3 x4 x5 x6 x7) = rgf x0 x1 x2 x3 x4 x5 x6 y := by simp [putF, rgf, rgf_q0_7, rgf_q1_7, rgf_q2_7, rgf_q3_7, rgf_q4_7, rgf_q5_7, rgf_q6_7]
theorem rgf_mk (x0 : Int) (x1 : Int) (x2 : Int) (x3 : Int) (x4 : Addr) (x5 : Int) (x6 : Addr) (x7 : Addr) : putF "_above" (V.ref x7) (putF "_view" (V.ref x6) (putF "_most" (V.int x5) (putF "_memory" (V.ref x4) (putF "resident" (V.int x3) (putF "fills" (V.int x2) (putF "spills" (V.int x1) (putF "depth" (V.int x0) []))))))) = rgf x0 x1 x2 x3 x4 x5 x6 x7 := by simp [putF, rgf, rgf_q0_1, rgf_q0_2, rgf_q0_3, rgf_q0_4, rgf_q0_5, rgf_q0_6, rgf_q0_7, rgf_q1_0, rgf_q1_2, rgf_q1_3, rgf_q1_4, rgf_q1_5, rgf_q1_6, rgf_q1_7, rgf_q2_0, rgf_q2_1, rgf_q2_3, rgf_q2_4, rgf_q2_5, rgf_q2_6, rgf_q2_7, rgf_q3_0, rgf_q3_1, rgf_q3_2, rgf_q3_4, rgf_q3_5, rgf_q3_6, rgf_q3_7, rgf_q4_0, rgf_q4_1, rgf_q4_2, rgf_q4_3, rgf_q4_5, rgf_q4_6, rgf_q4_7, rgf_q5_0, rgf_q5_1, rgf_q5_2, rgf_q5_3, rgf_q5_4, rgf_q5_6, rgf_q5_7, rgf_q6_0, rgf_q6_1, rgf_q6_2, rgf_q6_3, rgf_q6_4, rgf_q6_5, rgf_q6_7, rgf_q7_0, rgf_q7_1, rgf_q7_2, rgf_q7_3, rgf_q7_4, rgf_q7_5, rgf_q7_6]
theorem rgf_len1 (x0 : Int) : (putF "depth" (V.int x0) ([])).length < 1000 := by simp [putF, rgf_q0_1, rgf_q0_2, rgf_q0_3, rgf_q0_4, rgf_q0_5, rgf_q0_6, rgf_q0_7, rgf_q1_0, rgf_q1_2, rgf_q1_3, rgf_q1_4, rgf_q1_5, rgf_q1_6, rgf_q1_7, rgf_q2_0, rgf_q2_1, rgf_q2_3, rgf_q2_4, rgf_q2_5, rgf_q2_6, rgf_q2_7, rgf_q3_0, rgf_q3_1, rgf_q3_2, rgf_q3_4, rgf_q3_5, rgf_q3_6, rgf_q3_7, rgf_q4_0, rgf_q4_1, rgf_q4_2, rgf_q4_3, rgf_q4_5, rgf_q4_6, rgf_q4_7, rgf_q5_0, rgf_q5_1, rgf_q5_2, rgf_q5_3, rgf_q5_4, rgf_q5_6, rgf_q5_7, rgf_q6_0, rgf_q6_1, rgf_q6_2, rgf_q6_3, rgf_q6_4, rgf_q6_5, rgf_q6_7, rgf_q7_0, rgf_q7_1, rgf_q7_2, rgf_q7_3, rgf_q7_4, rgf_q7_5, rgf_q7_6]
theorem rgf_len2 (x0 : Int) (x1 : Int) : (putF "spills" (V.int x1) (putF "depth" (V.int x0) ([]))).length < 1000 := by simp [putF, rgf_q0_1, rgf_q0_2, rgf_q0_3, rgf_q0_4, rgf_q0_5, rgf_q0_6, rgf_q0_7, rgf_q1_0, rgf_q1_2, rgf_q1_3, rgf_q1_4, rgf_q1_5, rgf_q1_6, rgf_q1_7, rgf_q2_0, rgf_q2_1, rgf_q2_3, rgf_q2_4, rgf_q2_5, rgf_q2_6, rgf_q2_7, rgf_q3_0, rgf_q3_1, rgf_q3_2, rgf_q3_4, rgf_q3_5, rgf_q3_6, rgf_q3_7, rgf_q4_0, rgf_q4_1, rgf_q4_2, rgf_q4_3, rgf_q4_5, rgf_q4_6, rgf_q4_7, rgf_q5_0, rgf_q5_1, rgf_q5_2, rgf_q5_3, rgf_q5_4, rgf_q5_6, rgf_q5_7, rgf_q6_0, rgf_q6_1, rgf_q6_2, rgf_q6_3, rgf_q6_4, rgf_q6_5, rgf_q6_7, rgf_q7_0, rgf_q7_1, rgf_q7_2, rgf_q7_3, rgf_q7_4, rgf_q7_5, rgf_q7_6]
theorem rgf_len3 (x0 : Int) (x1 : Int) (x2 : Int) : (putF "fills" (V.int x2) (putF "spills" (V.int x1) (putF "depth" (V.int x0) ([])))).length < 1000 := by simp [putF, rgf_q0_1, rgf_q0_2, rgf_q0_3, rgf_q0_4, rgf_q0_5, rgf_q0_6, rgf_q0_7, rgf_q1_0, rgf_q1_2, rgf_q1_3, rgf_q1_4, rgf_q1_5, rgf_q1_6, rgf_q1_7, rgf_q2_0, rgf_q2_1, rgf_q2_3, rgf_q2_4, rgf_q2_5, rgf_q2_6, rgf_q2_7, rgf_q3_0, rgf_q3_1, rgf_q3_2, rgf_q3_4, rgf_q3_5, rgf_q3_6, rgf_q3_7, rgf_q4_0, rgf_q4_1, rgf_q4_2, rgf_q4_3, rgf_q4_5, rgf_q4_6, rgf_q4_7, rgf_q5_0, rgf_q5_1, rgf_q5_2, rgf_q5_3, rgf_q5_4, rgf_q5_6, rgf_q5_7, rgf_q6_0, rgf_q6_1, rgf_q6_2, rgf_q6_3, rgf_q6_4, rgf_q6_5, rgf_q6_7, rgf_q7_0, rgf_q7_1, rgf_q7_2, rgf_q7_3, rgf_q7_4, rgf_q7_5, rgf_q7_6]
theorem rgf_len4 (x0 : Int) (x1 : Int) (x2 : Int) (x3 : Int) : (putF "resident" (V.int x3) (putF "fills" (V.int x2) (putF "spills" (V.int x1) (putF "depth" (V.int x0) ([]))))).length < 1000 := by simp [putF, rgf_q0_1, rgf_q0_2, rgf_q0_3, rgf_q0_4, rgf_q0_5, rgf_q0_6, rgf_q0_7, rgf_q1_0, rgf_q1_2, rgf_q1_3, rgf_q1_4, rgf_q1_5, rgf_q1_6, rgf_q1_7, rgf_q2_0, rgf_q2_1, rgf_q2_3, rgf_q2_4, rgf_q2_5, rgf_q2_6, rgf_q2_7, rgf_q3_0, rgf_q3_1, rgf_q3_2, rgf_q3_4, rgf_q3_5, rgf_q3_6, rgf_q3_7, rgf_q4_0, rgf_q4_1, rgf_q4_2, rgf_q4_3, rgf_q4_5, rgf_q4_6, rgf_q4_7, rgf_q5_0, rgf_q5_1, rgf_q5_2, rgf_q5_3, rgf_q5_4, rgf_q5_6, rgf_q5_7, rgf_q6_0, rgf_q6_1, rgf_q6_2, rgf_q6_3, rgf_q6_4, rgf_q6_5, rgf_q6_7, rgf_q7_0, rgf_q7_1, rgf_q7_2, rgf_q7_3, rgf_q7_4, rgf_q7_5, rgf_q7_6]
theorem rgf_len5 (x0 : Int) (x1 : Int) (x2 : Int) (x3 : Int) (x4 : Addr) : (putF "_memory" (V.ref x4) (putF "resident" (V.int x3) (putF "fills" (V.int x2) (putF "spills" (V.int x1) (putF "depth" (V.int x0) ([])))))).length < 1000 := by simp [putF, rgf_q0_1, rgf_q0_2, rgf_q0_3, rgf_q0_4, rgf_q0_5, rgf_q0_6, rgf_q0_7, rgf_q1_0, rgf_q1_2, rgf_q1_3, rgf_q1_4, rgf_q1_5, rgf_q1_6, rgf_q1_7, rgf_q2_0, rgf_q2_1, rgf_q2_3, rgf_q2_4, rgf_q2_5, rgf_q2_6, rgf_q2_7, rgf_q3_0, rgf_q3_1, rgf_q3_2, rgf_q3_4, rgf_q3_5, rgf_q3_6, rgf_q3_7, rgf_q4_0, rgf_q4_1, rgf_q4_2, rgf_q4_3, rgf_q4_5, rgf_q4_6, rgf_q4_7, rgf_q5_0, rgf_q5_1, rgf_q5_2, rgf_q5_3, rgf_q5_4, rgf_q5_6, rgf_q5_7, rgf_q6_0, rgf_q6_1, rgf_q6_2, rgf_q6_3, rgf_q6_4, rgf_q6_5, rgf_q6_7, rgf_q7_0, rgf_q7_1, rgf_q7_2, rgf_q7_3, rgf_q7_4, rgf_q7_5, rgf_q7_6]
theorem rgf_len6 (x0 : Int) (x1 : Int) (x2 : Int) (x3 : Int) (x4 : Addr) (x5 : Int) : (putF "_most" (V.int x5) (putF "_memory" (V.ref x4) (putF "resident" (V.int x3) (putF "fills" (V.int x2) (putF "spills" (V.int x1) (putF "depth" (V.int x0) ([]))))))).length < 1000 := by simp [putF, rgf_q0_1, rgf_q0_2, rgf_q0_3, rgf_q0_4, rgf_q0_5, rgf_q0_6, rgf_q0_7, rgf_q1_0, rgf_q1_2, rgf_q1_3, rgf_q1_4, rgf_q1_5, rgf_q1_6, rgf_q1_7, rgf_q2_0, rgf_q2_1, rgf_q2_3, rgf_q2_4, rgf_q2_5, rgf_q2_6, rgf_q2_7, rgf_q3_0, rgf_q3_1, rgf_q3_2, rgf_q3_4, rgf_q3_5, rgf_q3_6, rgf_q3_7, rgf_q4_0, rgf_q4_1, rgf_q4_2, rgf_q4_3, rgf_q4_5, rgf_q4_6, rgf_q4_7, rgf_q5_0, rgf_q5_1, rgf_q5_2, rgf_q5_3, rgf_q5_4, rgf_q5_6, rgf_q5_7, rgf_q6_0, rgf_q6_1, rgf_q6_2, rgf_q6_3, rgf_q6_4, rgf_q6_5, rgf_q6_7, rgf_q7_0, rgf_q7_1, rgf_q7_2, rgf_q7_3, rgf_q7_4, rgf_q7_5, rgf_q7_6]
theorem rgf_len7 (x0 : Int) (x1 : Int) (x2 : Int) (x3 : Int) (x4 : Addr) (x5 : Int) (x6 : Addr) : (putF "_view" (V.ref x6) (putF "_most" (V.int x5) (putF "_memory" (V.ref x4) (putF "resident" (V.int x3) (putF "fills" (V.int x2) (putF "spills" (V.int x1) (putF "depth" (V.int x0) ([])))))))).length < 1000 := by simp [putF, rgf_q0_1, rgf_q0_2, rgf_q0_3, rgf_q0_4, rgf_q0_5, rgf_q0_6, rgf_q0_7, rgf_q1_0, rgf_q1_2, rgf_q1_3, rgf_q1_4, rgf_q1_5, rgf_q1_6, rgf_q1_7, rgf_q2_0, rgf_q2_1, rgf_q2_3, rgf_q2_4, rgf_q2_5, rgf_q2_6, rgf_q2_7, rgf_q3_0, rgf_q3_1, rgf_q3_2, rgf_q3_4, rgf_q3_5, rgf_q3_6, rgf_q3_7, rgf_q4_0, rgf_q4_1, rgf_q4_2, rgf_q4_3, rgf_q4_5, rgf_q4_6, rgf_q4_7, rgf_q5_0, rgf_q5_1, rgf_q5_2, rgf_q5_3, rgf_q5_4, rgf_q5_6, rgf_q5_7, rgf_q6_0, rgf_q6_1, rgf_q6_2, rgf_q6_3, rgf_q6_4, rgf_q6_5, rgf_q6_7, rgf_q7_0, rgf_q7_1, rgf_q7_2, rgf_q7_3, rgf_q7_4, rgf_q7_5, rgf_q7_6]

/-! ### windows, in plain terms -/
structure Ab where
  G : List Int
  R : Nat → List Int
  L : Nat → List Int
  n : Nat
def z8 : List Int := List.replicate 8 0
def upF (f : Nat → List Int) (k : Nat) (y : List Int) : Nat → List Int := fun j => if j = k then y else f j
theorem upF_same {f : Nat → List Int} {k : Nat} {y : List Int} : upF f k y k = y := if_pos rfl
theorem upF_ne {f : Nat → List Int} {k j : Nat} {y : List Int} (h : j ≠ k) : upF f k y j = f j := if_neg h
theorem setL {xs ys : List Int} {n j : Nat} {w : Int} (e : xs.length = n) (h : j < n) : (xs ++ ys).set j w = xs.set j w ++ ys := List.set_append_left _ _ (by rw [e]; exact h)
theorem setR {xs ys : List Int} {n j : Nat} {w : Int} (e : xs.length = n) (h : n ≤ j) : (xs ++ ys).set j w = xs ++ ys.set (j - n) w := by rw [List.set_append_right _ _ (by rw [e]; exact h), e]
namespace Ab
structure ok (A : Ab) : Prop where
  g : A.G.length = 8
  r : ∀ k, (A.R k).length = 8
  l : ∀ k, (A.L k).length = 8
def view (A : Ab) : List Int := A.G ++ (A.R (A.n + 1) ++ (A.L A.n ++ A.R A.n))
def zero : Ab := ⟨z8, fun _ => z8, fun _ => z8, 0⟩
def down (A : Ab) : Ab := ⟨A.G, upF A.R (A.n + 2) z8, upF A.L (A.n + 1) z8, A.n + 1⟩
def up (A : Ab) : Ab := { A with n := A.n - 1 }
def wr (A : Ab) (j : Nat) (w : Int) : Ab :=
  if j = 0 then A else if j < 8 then { A with G := A.G.set j w } else if j < 16 then { A with R := upF A.R (A.n + 1) ((A.R (A.n + 1)).set (j - 8) w) }
  else if j < 24 then { A with L := upF A.L A.n ((A.L A.n).set (j - 16) w) } else { A with R := upF A.R A.n ((A.R A.n).set (j - 24) w) }
variable {A : Ab}
theorem zero_ok : zero.ok := ⟨rfl, fun _ => rfl, fun _ => rfl⟩
theorem ok.view (h : A.ok) : A.view.length = 32 := by simp [Ab.view, h.g, h.r, h.l]
theorem ok.down (h : A.ok) : A.down.ok := by
  refine ⟨h.g, fun k => ?_, fun k => ?_⟩
  · show (upF _ _ _ k).length = 8
    unfold upF; split
    · rfl
    · exact h.r k
  · show (upF _ _ _ k).length = 8
    unfold upF; split
    · rfl
    · exact h.l k
theorem ok.up (h : A.ok) : A.up.ok := ⟨h.g, h.r, h.l⟩
theorem upF_len {f : Nat → List Int} {k : Nat} {y : List Int} (h : ∀ k, (f k).length = 8) (hy : y.length = 8) : ∀ j, (upF f k y j).length = 8 := fun j => by
  unfold upF; split
  · exact hy
  · exact h j
theorem ok.wr (h : A.ok) (j : Nat) (w : Int) : (A.wr j w).ok := by
  unfold Ab.wr
  split
  · exact h
  split
  · exact ⟨by simp [h.g], h.r, h.l⟩
  split
  · exact ⟨h.g, upF_len h.r (by simp [h.r]), h.l⟩
  split
  · exact ⟨h.g, h.r, upF_len h.l (by simp [h.l])⟩
  · exact ⟨h.g, upF_len h.r (by simp [h.r]), h.l⟩
theorem wr_n (j : Nat) (w : Int) : (A.wr j w).n = A.n := by
  unfold wr
  repeat' split
  all_goals rfl
theorem view_down (h : A.ok) : A.down.view = A.view.take 8 ++ (List.replicate 16 0 ++ (A.view.drop 8).take 8) := by
  have e1 : A.view.take 8 = A.G := List.take_left' h.g
  have e2 : A.view.drop 8 = A.R (A.n + 1) ++ (A.L A.n ++ A.R A.n) := List.drop_left' h.g
  have e3 : (A.view.drop 8).take 8 = A.R (A.n + 1) := by rw [e2]; exact List.take_left' (h.r _)
  rw [e1, e3]
  show A.G ++ (upF A.R (A.n + 2) z8 (A.n + 1 + 1) ++ (upF A.L (A.n + 1) z8 (A.n + 1) ++ upF A.R (A.n + 2) z8 (A.n + 1))) = _
  rw [show A.n + 1 + 1 = A.n + 2 from rfl, upF_same, upF_same, upF_ne (by omega), ← List.append_assoc z8]
  rfl
theorem view_ins (h : A.ok) : A.view.drop 16 = A.L A.n ++ A.R A.n := by
  have e : A.view = (A.G ++ A.R (A.n + 1)) ++ (A.L A.n ++ A.R A.n) := by simp [Ab.view]
  rw [e]
  exact List.drop_left' (by simp [h.g, h.r])
theorem view_up (h : A.ok) {m : Nat} (hm : A.n = m + 1) : A.up.view = A.view.take 8 ++ (A.view.drop 24 ++ (A.L m ++ A.R m)) := by
  have e1 : A.view.take 8 = A.G := List.take_left' h.g
  have e2 : A.view = (A.G ++ (A.R (A.n + 1) ++ A.L A.n)) ++ A.R A.n := by simp [Ab.view]
  have e3 : A.view.drop 24 = A.R A.n := by rw [e2]; exact List.drop_left' (by simp [h.g, h.r, h.l])
  rw [e1, e3]
  show A.G ++ (A.R (A.n - 1 + 1) ++ (A.L (A.n - 1) ++ A.R (A.n - 1))) = _
  rw [hm, show m + 1 - 1 = m from rfl]
theorem view_wr (h : A.ok) {j : Nat} (hj : j < 32) (h0 : j ≠ 0) (w : Int) : (A.wr j w).view = A.view.set j w := by
  have hg := h.g
  have hr1 := h.r (A.n + 1)
  have hl := h.l A.n
  unfold wr
  rw [if_neg h0]
  by_cases c1 : j < 8
  · rw [if_pos c1]
    exact (setL hg c1).symm
  rw [if_neg c1]
  by_cases c2 : j < 16
  · rw [if_pos c2]
    show A.G ++ (upF _ _ _ (A.n + 1) ++ (A.L A.n ++ upF _ _ _ A.n)) = _
    rw [upF_same, upF_ne (by omega)]
    unfold Ab.view
    rw [setR hg (by omega), setL hr1 (by omega)]
  rw [if_neg c2]
  by_cases c3 : j < 24
  · rw [if_pos c3]
    show A.G ++ (A.R (A.n + 1) ++ (upF _ _ _ A.n ++ A.R A.n)) = _
    rw [upF_same]
    unfold Ab.view
    rw [setR hg (by omega), setR hr1 (by omega), setL hl (by omega), show j - 8 - 8 = j - 16 by omega]
  rw [if_neg c3]
  show A.G ++ (upF _ _ _ (A.n + 1) ++ (A.L A.n ++ upF _ _ _ A.n)) = _
  rw [upF_same, upF_ne (by omega)]
  unfold Ab.view
  rw [setR hg (by omega), setR hr1 (by omega), setR hl (by omega), show j - 8 - 8 - 8 = j - 24 by omega]
theorem wr_row {j : Nat} (w : Int) {k : Nat} (hk : k < A.n) : (A.wr j w).L k ++ (A.wr j w).R k = A.L k ++ A.R k := by
  unfold wr
  repeat' split
  all_goals first
    | rfl
    | (show _ ++ upF _ _ _ k = _; rw [upF_ne (by omega)])
    | (show upF _ _ _ k ++ _ = _; rw [upF_ne (by omega)])
end Ab

/-! ### defs whose exceptions bear no context; defs called in an except suite -/
theorem takes0N {X : Cx} : L2N.Takes X (fun _ _ _ _ => False) := fun _ _ x => by
  obtain ⟨_, _, _, _, _, _, _, _, _, _, _, _, _, _, _, _, z⟩ := x
  exact z.elim
section
variable {P : Program} {w : World} {K : PySem.W.Frag} {mg : Str → Option Value} {base : Heap} {x qual : Str} {st : Stmt} {f : Addr} {fd : FuncData} {N ps : List Str} {k : Nat} {sp : Sp}
theorem _root_.L2.Fun.okN (F : Fun K x qual st f fd) (S : FnScope N ps (defScope st)) (len : ∀ vs H Q E, sp vs H Q E → vs.length = ps.length)
    (hbody : ∀ (cdv : Value) (A : Around) (outer : List Env) (s : Shared) (H : Hp) (vs : List V) (Q : VK) (E : XK), Room k (A.deeper (PyProof.Rows.envOfC qual (defScope st) s.heap.objs.size f cdv)) → sp vs H Q E →
      ∃ t, PSs (cxOf (L2N.CX P w) P w K mg base N qual (defScope st) f cdv A outer s H E) (defBody st) t ∧ t { nx := fun _ H' => Q .non H', rt := Q } (start N vs) H) : FnOk P w K mg base (L2N.CX P w) (k + 1) f fd ps sp := by
  obtain ⟨oc, od, kV, doc, pm, an, cdv, ct, osl, rfl, lk, hcd⟩ := F.ex
  exact fn_of lk hcd S len fun A outer s H vs Q E hr hsp => hbody cdv A outer s H vs Q E hr hsp
theorem _root_.L2.Fun.okH (F : Fun K x qual st f fd) (S : FnScope N ps (defScope st)) (len : ∀ vs H Q E, sp vs H Q E → vs.length = ps.length)
    (hbody : ∀ (cdv : Value) (A : Around) (outer : List Env) (s : Shared) (H : Hp) (vs : List V) (Q : VK) (E : XK) (p : Addr × Obj), L2H.Hot1 A p → L2H.RoomH k (A.deeper (PyProof.Rows.envOfC qual (defScope st) s.heap.objs.size f cdv)) → sp vs H Q E →
      ∃ t, PSs (L2H.cxH CX0 P w K mg base N qual (defScope st) f cdv A outer s H E p) (defBody st) t ∧ t { nx := fun _ H' => Q .non H', rt := Q } (start N vs) H) : L2H.FnH P w K mg base CX0 (k + 1) f fd ps sp := by
  obtain ⟨oc, od, kV, doc, pm, an, cdv, ct, osl, rfl, lk, hcd⟩ := F.ex
  exact L2H.fn_ofH lk hcd S len fun A outer s H vs Q E p hot hr hsp => hbody cdv A outer s H vs Q E p hot hr hsp
end
section
variable {X : Cx}
theorem passA0 {E : St → XK} : ∀ σ, PassesAt CX0 X σ (E σ) := fun _ _ _ _ _ _ _ h => h.elim
theorem hotS {a : Addr} {cls : Value} {d : Option Addr} {oe : Obj} {pn : List (Addr × Obj)} (hz : L2N.Zn cls d oe) (hf : ∃ vs, oe.data = .fields vs) : L2H.HotC (X.suite a ((a, oe) :: pn)) := by
  obtain ⟨vs, hd⟩ := hf
  exact ⟨(a, oe), ⟨rfl, vs, hd, hz.2.2 vs hd⟩, List.mem_cons_self⟩
theorem huH {k : Nat} {A : Around} (r : L2H.RoomH k A) : A.units + 1 < cLine := by have := r.un; omega
theorem roomS {k j : Nat} {X : Cx} {a : Addr} {pn : List (Addr × Obj)} (r : Room k X.A) (h : j + 1 ≤ k) : L2H.RoomH j (X.suite a pn).A :=
  ⟨by have := r.dp; show X.A.depth + 3 * j + 5 < _; omega, by have := r.un; show X.A.units + 16 * j + 200 < _; omega⟩
end

def spEV : Sp := fun vs H Q _ => vs = [] ∧ ∀ p H', H p = none → Same H H' → H' p = some (.lst ((List.replicate 32 (0 : Int)).map V.int)) → Q (.ref p) H'
def spLI : Sp := fun vs H Q _ => ∃ (v : Addr) (ys : List Int), vs = [.ref v] ∧ H v = some (.lst (ys.map V.int)) ∧ ∀ p, H p = none → Q (.ref p) (upd H p (.lst ((ys.drop 16).map V.int)))
def spVB : Sp := fun vs H Q _ => ∃ (v : Addr) (ys : List Int), vs = [.ref v] ∧ H v = some (.lst (ys.map V.int)) ∧ ys.length = 32 ∧ ∀ p H', H p = none → Same H H' → H' p = some (.lst ((ys.take 8 ++ (List.replicate 16 0 ++ (ys.drop 8).take 8)).map V.int)) → Q (.ref p) H'
def spVA : Sp := fun vs H Q _ => ∃ (v u : Addr) (ys ws : List Int), vs = [.ref v, .ref u] ∧ H v = some (.lst (ys.map V.int)) ∧ H u = some (.lst (ws.map V.int)) ∧ ys.length = 32 ∧ ws.length = 16 ∧ ∀ p H', H p = none → Same H H' → H' p = some (.lst ((ys.take 8 ++ (ys.drop 24 ++ ws)).map V.int)) → Q (.ref p) H'
section
variable {P : Program} {w : World} {K : PySem.W.Frag} {mg : Str → Option Value} {base : Heap} {a : Ad}
theorem ok_empty_view (T : Txt K mg a) : FnOk P w K mg base CX0 1 a.f_empty_view a.d_empty_view [] spEV := by
  refine T.F_empty_view.ok sc_empty_view (fun vs H Q E h => ?_) (fun cdv A outer s H vs Q E hr h => ?_)
  · obtain ⟨rfl, _⟩ := h; rfl
  · obtain ⟨rfl, q⟩ := h
    refine ⟨_, (pss_one (ps_ret (pe_op op_rep (pe_lst (pa_cons pe_int pa_nil)) pe_int))), ?_⟩
    refine ⟨(by show 1 ≤ sizeLine; decide), fun p1 n1 => ⟨_, _, _, rfl, rfl, upd_same, by decide, by decide, (by show 1 * 32 ≤ sizeLine; decide), fun p n => ?_⟩⟩
    refine q p _ ((sN (Same.refl H) n1).free n) (sN (sN (Same.refl H) n1) n) ?_
    rw [upd_same]
    exact congrArg (fun z => some (HO.lst z)) (rep_int 32)
theorem ok_locals_and_ins (T : Txt K mg a) : FnOk P w K mg base CX0 1 a.f_locals_and_ins a.d_locals_and_ins ["view"] spLI := by
  refine T.F_locals_and_ins.ok sc_locals_and_ins (fun vs H Q E h => ?_) (fun cdv A outer s H vs Q E hr h => ?_)
  · obtain ⟨_, _, rfl, _⟩ := h; rfl
  · obtain ⟨v, ys, rfl, hv, q⟩ := h
    refine ⟨_, (pss_one (ps_ret (pe_slice sl_list (pv 0) (po_some (pe_glob (v := .int (16)) rfl T.g_FIRST_LOCAL ⟨_, rfl⟩)) po_none))), ?_⟩
    refine ⟨_, rfl, _, rfl, v, _, rfl, SqL.of hv, fun p n => ?_⟩
    rw [show cutV (ys.map V.int) (some 16) none = (ys.drop 16).map V.int by rw [show (16 : Int) = ((16 : Nat) : Int) from rfl, cut_lo, List.map_drop]]
    exact q p n
theorem ok_view_below (T : Txt K mg a) : FnOk P w K mg base CX0 1 a.f_view_below a.d_view_below ["view"] spVB := by
  refine T.F_view_below.ok sc_view_below (fun vs H Q E h => ?_) (fun cdv A outer s H vs Q E hr h => ?_)
  · obtain ⟨_, _, rfl, _⟩ := h; rfl
  · obtain ⟨v, ys, rfl, hv, hl, q⟩ := h
    refine ⟨_, (pss_one (ps_ret (pe_op op_cat (pe_op op_cat (pe_slice sl_list (pv 0) po_none (po_some (pe_glob (v := .int (8)) rfl T.g_FIRST_OUT ⟨_, rfl⟩))) (pe_op op_rep (pe_lst (pa_cons pe_int pa_nil)) (pe_op op_sub (pe_glob (v := .int (24)) rfl T.g_FIRST_IN ⟨_, rfl⟩) (pe_glob (v := .int (8)) rfl T.g_FIRST_OUT ⟨_, rfl⟩)))) (pe_slice sl_list (pv 0) (po_some (pe_glob (v := .int (8)) rfl T.g_FIRST_OUT ⟨_, rfl⟩)) (po_some (pe_glob (v := .int (16)) rfl T.g_FIRST_LOCAL ⟨_, rfl⟩)))))), ?_⟩
    refine ⟨_, rfl, _, rfl, v, _, rfl, SqL.of hv, fun p1 n1 => ?_⟩
    rw [show cutV (ys.map V.int) none (some 8) = (ys.take 8).map V.int by rw [show (8 : Int) = ((8 : Nat) : Int) from rfl, cut_hi, List.map_take]]
    have s1 := sN (Same.refl H) n1 (o := .lst ((ys.take 8).map V.int))
    refine ⟨(by show 1 ≤ sizeLine; decide), fun p2 n2 => ?_⟩
    have s2 := sN s1 n2 (o := .lst [V.int 0])
    have a1 := sN (Same.refl _) n2 (o := .lst [V.int 0]) p1 _ upd_same
    refine ⟨_, _, rfl, rfl, _, _, _, rfl, rfl, upd_same, by decide, by decide, (by show 1 * 16 ≤ sizeLine; decide), fun p3 n3 => ?_⟩
    rw [show (List.replicate ((24 : Int) - 8).toNat [V.int 0]).flatten = (List.replicate 16 (0 : Int)).map V.int from rep_int 16]
    have s3 := sN s2 n3 (o := .lst ((List.replicate 16 (0 : Int)).map V.int))
    have a3 := sN (Same.refl _) n3 (o := .lst ((List.replicate 16 (0 : Int)).map V.int)) p1 _ a1
    refine ⟨_, _, _, _, rfl, rfl, a3, upd_same, by simp [hl]; decide, fun p4 n4 => ?_⟩
    have s4 := sN s3 n4 (o := .lst ((ys.take 8).map V.int ++ (List.replicate 16 (0 : Int)).map V.int))
    refine ⟨_, rfl, _, rfl, _, rfl, v, _, rfl, SqL.of (s4 _ _ hv), fun p5 n5 => ?_⟩
    rw [show cutV (ys.map V.int) (some 8) (some 16) = ((ys.drop 8).take 8).map V.int by rw [show (8 : Int) = ((8 : Nat) : Int) from rfl, show (16 : Int) = ((16 : Nat) : Int) from rfl, cut_mid _ _ _ (by decide) (by simp [hl]), List.map_take, List.map_drop]]
    have s5 := sN s4 n5 (o := .lst (((ys.drop 8).take 8).map V.int))
    have a5 := sN (Same.refl _) n5 (o := .lst (((ys.drop 8).take 8).map V.int)) p4 _ upd_same
    refine ⟨_, _, _, _, rfl, rfl, a5, upd_same, by simp [hl]; decide, fun p6 n6 => ?_⟩
    refine q p6 _ (s5.free n6) (sN s5 n6) ?_
    rw [upd_same, ← List.map_append, ← List.map_append, List.append_assoc]
theorem ok_view_above (T : Txt K mg a) : FnOk P w K mg base CX0 1 a.f_view_above a.d_view_above ["view", "words"] spVA := by
  refine T.F_view_above.ok sc_view_above (fun vs H Q E h => ?_) (fun cdv A outer s H vs Q E hr h => ?_)
  · obtain ⟨_, _, _, _, rfl, _⟩ := h; rfl
  · obtain ⟨v, u, ys, ws, rfl, hv, hu, hl, hw, q⟩ := h
    refine ⟨_, (pss_one (ps_ret (pe_op op_cat (pe_op op_cat (pe_slice sl_list (pv 0) po_none (po_some (pe_glob (v := .int (8)) rfl T.g_FIRST_OUT ⟨_, rfl⟩))) (pe_slice sl_list (pv 0) (po_some (pe_glob (v := .int (24)) rfl T.g_FIRST_IN ⟨_, rfl⟩)) po_none)) (pv 1)))), ?_⟩
    refine ⟨_, rfl, _, rfl, v, _, rfl, SqL.of hv, fun p1 n1 => ?_⟩
    rw [show cutV (ys.map V.int) none (some 8) = (ys.take 8).map V.int by rw [show (8 : Int) = ((8 : Nat) : Int) from rfl, cut_hi, List.map_take]]
    have s1 := sN (Same.refl H) n1 (o := .lst ((ys.take 8).map V.int))
    refine ⟨_, rfl, _, rfl, v, _, rfl, SqL.of (s1 _ _ hv), fun p2 n2 => ?_⟩
    rw [show cutV (ys.map V.int) (some 24) none = (ys.drop 24).map V.int by rw [show (24 : Int) = ((24 : Nat) : Int) from rfl, cut_lo, List.map_drop]]
    have s2 := sN s1 n2 (o := .lst ((ys.drop 24).map V.int))
    have a1 := sN (Same.refl _) n2 (o := .lst ((ys.drop 24).map V.int)) p1 _ upd_same
    refine ⟨_, _, _, _, rfl, rfl, a1, upd_same, by simp [hl]; decide, fun p3 n3 => ?_⟩
    have s3 := sN s2 n3 (o := .lst ((ys.take 8).map V.int ++ (ys.drop 24).map V.int))
    refine ⟨_, rfl, _, _, _, _, rfl, rfl, upd_same, s3 _ _ hu, by simp [hl, hw]; decide, fun p4 n4 => ?_⟩
    refine q p4 _ (s3.free n4) (sN s3 n4) ?_
    rw [upd_same, ← List.map_append, ← List.map_append, List.append_assoc]
end

/-! ### a ring, in plain terms -/
structure RS where
  A : Ab
  b : Nat
  M : List Int
  sp : Int
  fi : Int
  W : Nat
def lies (M : List Int) (s : Int) : Prop := 0 ≤ s ∧ s + 16 ≤ M.length
instance (M : List Int) (s : Int) : Decidable (lies M s) := inferInstanceAs (Decidable (_ ∧ _))
namespace RS
structure ok (S : RS) : Prop where
  a : S.A.ok
  b : S.b ≤ S.A.n
  w : S.A.n + 2 ≤ S.b + S.W
  w3 : 3 ≤ S.W
  w4 : S.W ≤ 100
  m : S.M.length ≤ 900
  n : S.A.n ≤ 200
def sS (S : RS) : Int := (S.A.R (S.b + 1)).getD 6 0
def fS (S : RS) : Int := (S.A.R S.A.n).getD 6 0
def spill (S : RS) : RS := { S with M := S.M.take S.sS.toNat ++ (S.A.L S.b ++ S.A.R S.b) ++ S.M.drop (S.sS.toNat + 16), b := S.b + 1, sp := S.sp + 1 }
def fill (S : RS) : RS := { S with A := { S.A with L := upF S.A.L (S.b - 1) ((S.M.drop S.fS.toNat).take 8), R := upF S.A.R (S.b - 1) ((S.M.drop (S.fS.toNat + 8)).take 8) }, b := S.b - 1, fi := S.fi + 1 }
def full (S : RS) : Prop := S.A.n + 2 = S.b + S.W
instance (S : RS) : Decidable S.full := inferInstanceAs (Decidable (_ = _))
def dn (S : RS) : RS := { S with A := S.A.down }
def up1 (S : RS) : RS := { S with A := S.A.up }
variable {S : RS}
theorem ok.spill (h : S.ok) (f : S.full) (l : lies S.M S.sS) : S.spill.ok ∧ ¬ S.spill.full ∧ S.spill.M.length = S.M.length := by
  have hl := h.a.l S.b
  have hr := h.a.r S.b
  obtain ⟨l1, l2⟩ := l
  have e : S.spill.M.length = S.M.length := by
    show (S.M.take _ ++ (S.A.L S.b ++ S.A.R S.b) ++ S.M.drop _).length = _
    simp only [List.length_append, List.length_take, List.length_drop, hl, hr]
    omega
  have h3 := h.w3
  have f : S.A.n + 2 = S.b + S.W := f
  refine ⟨⟨h.a, ?_, ?_, h3, h.w4, by rw [e]; exact h.m, h.n⟩, ?_, e⟩
  · show S.b + 1 ≤ S.A.n; omega
  · show S.A.n + 2 ≤ S.b + 1 + S.W; omega
  · show ¬ S.A.n + 2 = S.b + 1 + S.W; omega
theorem ok.fill (h : S.ok) (b : S.b = S.A.n) (n : 0 < S.A.n) (l : lies S.M S.fS) : S.fill.ok ∧ S.fill.b < S.fill.A.n := by
  obtain ⟨l1, l2⟩ := l
  have h3 := h.w3
  refine ⟨⟨⟨h.a.g, Ab.upF_len h.a.r ?_, Ab.upF_len h.a.l ?_⟩, ?_, ?_, h3, h.w4, h.m, h.n⟩, ?_⟩
  · rw [List.length_take, List.length_drop]; omega
  · rw [List.length_take, List.length_drop]; omega
  · show S.b - 1 ≤ S.A.n; omega
  · show S.A.n + 2 ≤ S.b - 1 + S.W; omega
  · show S.b - 1 < S.A.n; omega
theorem ok.dn (h : S.ok) (f : ¬ S.full) (n : S.A.n ≤ 199) : S.dn.ok := by
  have hb := h.b
  have hw := h.w
  have f : ¬ S.A.n + 2 = S.b + S.W := f
  refine ⟨h.a.down, ?_, ?_, h.w3, h.w4, h.m, ?_⟩
  · show S.b ≤ S.A.n + 1; omega
  · show S.A.n + 1 + 2 ≤ S.b + S.W; omega
  · show S.A.n + 1 ≤ 200; omega
theorem ok.up1 (h : S.ok) (b : S.b < S.A.n) : S.up1.ok := by
  have hw := h.w
  have hn := h.n
  refine ⟨h.a.up, ?_, ?_, h.w3, h.w4, h.m, ?_⟩
  · show S.b ≤ S.A.n - 1; omega
  · show S.A.n - 1 + 2 ≤ S.b + S.W; omega
  · show S.A.n - 1 ≤ 200; omega
def wr (S : RS) (j : Nat) (w : Int) : RS := { S with A := S.A.wr j w }
theorem ok.wr (h : S.ok) (j : Nat) (w : Int) : (S.wr j w).ok := ⟨h.a.wr j w, by show S.b ≤ (S.A.wr j w).n; rw [Ab.wr_n]; exact h.b, by show (S.A.wr j w).n + 2 ≤ _; rw [Ab.wr_n]; exact h.w, h.w3, h.w4, h.m, by show (S.A.wr j w).n ≤ _; rw [Ab.wr_n]; exact h.n⟩
end RS
/-! ### a ring -/
structure RGx (C : Addr) (τ : Tg) (i : Nat) (H : Hp) (t dx me vw ab : Addr) (ar : Nat → Addr) (S : RS) : Prop where
  ob : At τ H t (.ins C dx (rgf S.A.n S.sp S.fi ((S.A.n : Int) + 1 - (S.b : Int)) me ((S.W : Int) - 1) vw ab)) (i, 0, 0)
  vw : At τ H vw (.lst (S.A.view.map V.int)) (i, 1, 0)
  ab : At τ H ab (.lst ((List.range (S.A.n - S.b)).map fun k => V.ref (ar (S.b + k)))) (i, 2, 0)
  ar : ∀ k, S.b ≤ k → k < S.A.n → At τ H (ar k) (.lst ((S.A.L k ++ S.A.R k).map V.int)) (i, 3, k)
  me : At τ H me (.lst (S.M.map V.int)) (8, 0, 0)
def RG (C : Addr) (τ : Tg) (i : Nat) (H : Hp) (t me : Addr) (S : RS) : Prop := ∃ dx vw ab ar, RGx C τ i H t dx me vw ab ar S
theorem RG.st {C : Addr} {τ τ' : Tg} {i : Nat} {H H' : Hp} {t me : Addr} {S : RS} {Z : List Nat} (h : RG C τ i H t me S) (s : Stp τ τ' Z H H') (n : i ∉ Z) (n8 : 8 ∉ Z) : RG C τ' i H' t me S := by
  obtain ⟨dx, vw, ab, ar, x⟩ := h
  exact ⟨dx, vw, ab, ar, x.ob.st s n, x.vw.st s n, x.ab.st s n, fun k h1 h2 => (x.ar k h1 h2).st s n, x.me.st s n8⟩
/-- the law writes the memory -/
theorem RG.me {C : Addr} {τ : Tg} {i : Nat} {H : Hp} {t me : Addr} {S : RS} {M : List Int} (h : RG C τ i H t me S) (n : i ≠ 8) : RG C τ i (upd H me (.lst (M.map V.int))) t me { S with M := M } := by
  obtain ⟨dx, vw, ab, ar, x⟩ := h
  exact ⟨dx, vw, ab, ar, x.ob.put x.me.2 (by simp [n]), x.vw.put x.me.2 (by simp), x.ab.put x.me.2 (by simp), fun k h1 h2 => (x.ar k h1 h2).put x.me.2 (by simp), .set x.me.2⟩
def spRI (C : Addr) : Sp := fun vs H Q _ => ∃ (τ : Tg) (i : Nat) (t me dx : Addr) (M : List Int) (W : Nat), vs = [.ref t, .ref me, .int W] ∧ i ≠ 8 ∧ At τ H t (.ins C dx []) (i, 0, 0) ∧ At τ H me (.lst (M.map V.int)) (8, 0, 0) ∧ ∀ τ' H', RG C τ' i H' t me ⟨.zero, 0, M, 0, 0, W⟩ → Stp τ τ' [i] H H' → Q .non H'
def spRR (C : Addr) : Sp := fun vs H Q _ => ∃ (τ : Tg) (i : Nat) (t me : Addr) (S : RS) (j : Nat), vs = [.ref t, .int j] ∧ RG C τ i H t me S ∧ S.ok ∧ j < 32 ∧ Q (.int (S.A.view.getD j 0)) H
def spRW (C : Addr) : Sp := fun vs H Q _ => ∃ (τ : Tg) (i : Nat) (t me : Addr) (S : RS) (j : Nat) (w : Int), vs = [.ref t, .int j, .int w] ∧ i ≠ 8 ∧ RG C τ i H t me S ∧ S.ok ∧ j < 32 ∧ ∀ H', RG C τ i H' t me (S.wr j w) → Stp τ τ [i] H H' → Q .non H'
def spRB : Sp := fun vs H Q _ => ∃ x, vs = [x] ∧ Q (.bl false) H
def spRSA (C F : Addr) : Sp := fun vs H Q E => ∃ (τ : Tg) (i : Nat) (t me : Addr) (S : RS) (s : Int), vs = [.ref t, .int s] ∧ RG C τ i H t me S ∧ (lies S.M s → Q (.int s) H) ∧ (¬ lies S.M s → E (.ref F) none H)
def spRSp (C F : Addr) : Sp := fun vs H Q E => ∃ (τ : Tg) (i : Nat) (t me : Addr) (S : RS), vs = [.ref t] ∧ i ≠ 8 ∧ RG C τ i H t me S ∧ S.ok ∧ S.full ∧ (lies S.M S.sS → ∀ τ' H', RG C τ' i H' t me S.spill → Stp τ τ' [i, 8] H H' → Q .non H') ∧ (¬ lies S.M S.sS → ∀ τ' H', RG C τ' i H' t me S → Stp τ τ' [i, 8] H H' → E (.ref F) none H')
def spRF (C F : Addr) : Sp := fun vs H Q E => ∃ (τ : Tg) (i : Nat) (t me : Addr) (S : RS), vs = [.ref t] ∧ i ≠ 8 ∧ RG C τ i H t me S ∧ S.ok ∧ S.b = S.A.n ∧ 0 < S.A.n ∧ (lies S.M S.fS → ∀ τ' H', RG C τ' i H' t me S.fill → Stp τ τ' [i, 8] H H' → Q .non H') ∧ (¬ lies S.M S.fS → ∀ τ' H', RG C τ' i H' t me S → Stp τ τ' [i, 8] H H' → E (.ref F) none H')
/-- down and up -/
def RS.down (S : RS) : Option RS := if S.full then (if lies S.M S.sS then some S.spill.dn else none) else some S.dn
def RS.up (S : RS) : Option RS := if S.b = S.A.n then (if lies S.M S.fS then some S.fill.up1 else none) else some S.up1
def spRD (C F : Addr) : Sp := fun vs H Q E => ∃ (τ : Tg) (i : Nat) (t me : Addr) (S : RS), vs = [.ref t] ∧ i ≠ 8 ∧ RG C τ i H t me S ∧ S.ok ∧ S.A.n ≤ 199 ∧ (∀ S' τ' H', S.down = some S' → RG C τ' i H' t me S' → Stp τ τ' [i, 8] H H' → Q .non H') ∧ (∀ τ' H', S.down = none → RG C τ' i H' t me S → Stp τ τ' [i, 8] H H' → E (.ref F) none H')
def spRU (C F : Addr) : Sp := fun vs H Q E => ∃ (τ : Tg) (i : Nat) (t me : Addr) (S : RS), vs = [.ref t] ∧ i ≠ 8 ∧ RG C τ i H t me S ∧ S.ok ∧ 0 < S.A.n ∧ (∀ S' τ' H', S.up = some S' → RG C τ' i H' t me S' → Stp τ τ' [i, 8] H H' → Q .non H') ∧ (∀ τ' H', S.up = none → RG C τ' i H' t me S → Stp τ τ' [i, 8] H H' → E (.ref F) none H')

theorem RGx.wr {C : Addr} {τ : Tg} {i : Nat} {H : Hp} {t dx me vw ab : Addr} {ar : Nat → Addr} {S : RS} (h : RGx C τ i H t dx me vw ab ar S) (o : S.ok) {j : Nat} (hj : j < 32) (h0 : j ≠ 0) (x : Int) (i8 : i ≠ 8) :
    RGx C τ i (upd H vw (.lst ((S.A.view.set j x).map V.int))) t dx me vw ab ar (S.wr j x) := by
  have en : (S.wr j x).A.n = S.A.n := Ab.wr_n j x
  refine ⟨?_, ?_, ?_, fun k h1 h2 => ?_, ?_⟩
  · rw [en]; exact h.ob.put h.vw.2 (by simp)
  · rw [← Ab.view_wr o.a hj h0 x]; exact .set h.vw.2
  · rw [en]; exact h.ab.put h.vw.2 (by simp)
  · rw [en] at h2
    show At _ _ _ (.lst (((S.A.wr j x).L k ++ (S.A.wr j x).R k).map V.int)) _
    rw [Ab.wr_row x h2]
    exact (h.ar k h1 h2).put h.vw.2 (by simp)
  · exact h.me.put h.vw.2 (by simp [i8.symm])
section
variable {P : Program} {w : World} {K : PySem.W.Frag} {mg : Str → Option Value} {base : Heap} {a : Ad}
theorem ok_Ring_init (T : Txt K mg a) : FnOk P w K mg base CX0 2 a.f_Ring___init__ a.d_Ring___init__ ["self", "memory", "windows"] (spRI a.C_Ring) := by
  have G_empty_view : FnOk P w K mg base CX0 1 _ _ _ _ := ok_empty_view T
  refine T.F_Ring___init__.ok sc_Ring___init__ (fun vs H Q E h => ?_) (fun cdv A outer s H vs Q E hr h => ?_)
  · obtain ⟨_, _, _, _, _, _, _, rfl, _⟩ := h; rfl
  · obtain ⟨τ, i, t, me, dx, M, W, rfl, i8, ht, hm, q⟩ := h
    have mt : (τ t).1 ∈ [i] := mem1 ht.2 rfl
    refine ⟨_, (pss_cons (ps_fld (pv 0) pe_int rfl)
      (pss_cons (ps_fld (pv 0) pe_int rfl)
      (pss_cons (ps_fld (pv 0) pe_int rfl)
      (pss_cons (ps_fld (pv 0) pe_int rfl)
      (pss_cons (ps_fld (pv 0) (pv 1) rfl)
      (pss_cons (ps_fld (pv 0) (pe_op op_sub (pv 2) pe_int) rfl)
      (pss_cons (ps_fld (pv 0) (pe_call0 G_empty_view (hr.mono (by decide)) rfl T.g_empty_view T.k_empty_view T.bd_empty_view .nil pass0) rfl)
      (pss_one (ps_fld (pv 0) (pe_lst pa_nil) rfl))))))))), ?_⟩
    refine ⟨_, rfl, t, a.C_Ring, dx, _, rfl, ht.1, T.cl_Ring, T.n_Ring_depth, (by show 0 < 1000; decide), ?_⟩
    refine ⟨_, rfl, t, a.C_Ring, dx, _, rfl, upd_same, T.cl_Ring, T.n_Ring_spills, rgf_len1 _, ?_⟩
    refine ⟨_, rfl, t, a.C_Ring, dx, _, rfl, upd_same, T.cl_Ring, T.n_Ring_fills, rgf_len2 _ _, ?_⟩
    refine ⟨_, rfl, t, a.C_Ring, dx, _, rfl, upd_same, T.cl_Ring, T.n_Ring_resident, rgf_len3 _ _ _, ?_⟩
    refine ⟨_, rfl, _, rfl, t, a.C_Ring, dx, _, rfl, upd_same, T.cl_Ring, T.n_Ring__memory, rgf_len4 _ _ _ _, ?_⟩
    refine ⟨_, rfl, _, _, rfl, rfl, _, rfl, t, a.C_Ring, dx, _, rfl, upd_same, T.cl_Ring, T.n_Ring__most, rgf_len5 _ _ _ _ _, ?_⟩
    refine ⟨rfl, fun p1 H1 n1 s1 h1 => ?_⟩
    have S1 := ((((((Stp.refl (τ := τ) (S := [i]) (H := H)).put mt).put mt).put mt).put mt).put mt).put mt |>.sameN s1 n1 (x := (i, 1, 0))
    have t1 := (S1.ag t (some_ne ht.1)).trans ht.2
    have mt1 : (tgN τ p1 (i, 1, 0) t).1 ∈ [i] := mem1 t1 rfl
    refine ⟨_, rfl, t, a.C_Ring, dx, _, rfl, s1 _ _ upd_same, T.cl_Ring, T.n_Ring__view, rgf_len6 _ _ _ _ _ _, ?_⟩
    refine ⟨by decide, fun p2 n2 => ?_⟩
    refine ⟨_, rfl, t, a.C_Ring, dx, _, rfl, (by rw [upd_ne (ne_of_none upd_same n2)]; exact upd_same), T.cl_Ring, T.n_Ring__above, rgf_len7 _ _ _ _ _ _ _, ?_⟩
    have S2 := (S1.put mt1).new n2 (o := .lst []) (x := (i, 2, 0))
    have t2 := (S2.ag t (some_ne ht.1)).trans ht.2
    have S3 := S2.put (o := .ins a.C_Ring dx (rgf 0 0 0 1 me ((W : Int) - 1) p1 p2)) (mem1 t2 rfl)
    have em : HO.ins a.C_Ring dx _ = HO.ins a.C_Ring dx _ := congrArg (fun z => HO.ins a.C_Ring dx z) (rgf_mk 0 0 0 1 me ((W : Int) - 1) p1 p2)
    rw [show (V.int 1 : V) = V.int 1 from rfl]
    refine q (tgN (tgN τ p1 (i, 1, 0)) p2 (i, 2, 0)) _ ⟨dx, p1, p2, fun _ => 0, ?_, ?_, ?_, fun k hk h2 => absurd h2 (Nat.not_lt_zero k), ?_⟩ (S2.put (mem1 t2 rfl))
    · exact ⟨by rw [upd_same]; exact congrArg (fun z => some z) em, t2⟩
    · exact (((At.in h1).put t1 (by simp)).new n2).put t2 (by simp)
    · exact At.mk.put t2 (by simp)
    · have m1 := ((((((hm.put ht.2 (by simp [i8.symm])).put ht.2 (by simp [i8.symm])).put ht.2 (by simp [i8.symm])).put ht.2 (by simp [i8.symm])).put ht.2 (by simp [i8.symm])).put ht.2 (by simp [i8.symm])).sameN s1 n1 (y := (i, 1, 0))
      exact ((m1.put t1 (by simp [i8.symm])).new n2).put t2 (by simp [i8.symm])
theorem ok_Ring_read (T : Txt K mg a) : FnOk P w K mg base CX0 1 a.f_Ring_read a.d_Ring_read ["self", "number"] (spRR a.C_Ring) := by
  refine T.F_Ring_read.ok sc_Ring_read (fun vs H Q E h => ?_) (fun cdv A outer s H vs Q E hr h => ?_)
  · obtain ⟨_, _, _, _, _, _, rfl, _⟩ := h; rfl
  · obtain ⟨τ, i, t, me, S, j, rfl, ⟨dx, vw, ab, ar, W⟩, ho, hj, q⟩ := h
    refine ⟨_, (pss_one (ps_ret (pe_ix ix_list (pe_fld (pv 0) rfl) (pv 1) (fun _ _ => rfl)))), ?_⟩
    exact ⟨_, rfl, t, a.C_Ring, dx, _, _, rfl, W.ob.1, T.cl_Ring, T.n_Ring__view, rgf__view _ _ _ _ _ _ _ _, _, rfl, _, _, _, _, rfl, rfl, SqL.of W.vw.1, atI_nat (at_map (by rw [ho.a.view]; exact hj)), q⟩
theorem ok_Ring_write (T : Txt K mg a) : FnOk P w K mg base CX0 1 a.f_Ring_write a.d_Ring_write ["self", "number", "word"] (spRW a.C_Ring) := by
  refine T.F_Ring_write.ok sc_Ring_write (fun vs H Q E h => ?_) (fun cdv A outer s H vs Q E hr h => ?_)
  · obtain ⟨_, _, _, _, _, _, _, rfl, _⟩ := h; rfl
  · obtain ⟨τ, i, t, me, S, j, x, rfl, i8, ⟨dx, vw, ab, ar, W⟩, ho, hj, q⟩ := h
    refine ⟨_, (pss_one (ps_if (pt_cmpR op_ne (pv 1) pe_int (nomark _)) (pss_one (ps_asg (pv 2) (pg_sub (pe_fld (pv 0) rfl) (pv 1) set_list))) pss_nil)), ?_⟩
    refine ⟨_, rfl, rfl, _, rfl, ite3 (fun e => ?_) (fun e => ?_)⟩
    · have h0 : j ≠ 0 := by intro z; subst z; simp at e
      refine ⟨_, rfl, _, rfl, t, a.C_Ring, dx, _, _, rfl, W.ob.1, T.cl_Ring, T.n_Ring__view, rgf__view _ _ _ _ _ _ _ _, _, rfl, _, _, _, _, rfl, rfl, W.vw.1, ixN_nat (by rw [List.length_map, ho.a.view]; exact hj), ?_⟩
      rw [set_int]
      exact q _ ⟨dx, vw, ab, ar, W.wr ho hj h0 x i8⟩ (Stp.refl.put (mem1 W.vw.2 rfl))
    · have h0 : j = 0 := by simpa using e
      have h1 := q H
      rw [show S.wr j x = S by unfold RS.wr; rw [show S.A.wr j x = S.A from if_pos h0]] at h1
      exact h1 ⟨dx, vw, ab, ar, W⟩ Stp.refl
theorem ok_Ring_blocked_down (T : Txt K mg a) : FnOk P w K mg base CX0 1 a.f_Ring_blocked_down a.d_Ring_blocked_down ["self"] spRB := by
  refine T.F_Ring_blocked_down.ok sc_Ring_blocked_down (fun vs H Q E h => ?_) (fun cdv A outer s H vs Q E hr h => ?_)
  · obtain ⟨_, rfl, _⟩ := h; rfl
  · obtain ⟨x, rfl, q⟩ := h
    exact ⟨_, (pss_one (ps_ret pe_bl)), q⟩
theorem ok_Ring_blocked_up (T : Txt K mg a) : FnOk P w K mg base CX0 1 a.f_Ring_blocked_up a.d_Ring_blocked_up ["self"] spRB := by
  refine T.F_Ring_blocked_up.ok sc_Ring_blocked_up (fun vs H Q E h => ?_) (fun cdv A outer s H vs Q E hr h => ?_)
  · obtain ⟨_, rfl, _⟩ := h; rfl
  · obtain ⟨x, rfl, q⟩ := h
    exact ⟨_, (pss_one (ps_ret pe_bl)), q⟩
theorem ok_Ring_save_area (T : Txt K mg a) : FnOk P w K mg base (L2N.CX P w) 1 a.f_Ring__save_area a.d_Ring__save_area ["self", "start"] (spRSA a.C_Ring a.C_Fault) := by
  refine T.F_Ring__save_area.okN sc_Ring__save_area (fun vs H Q E h => ?_) (fun cdv A outer s H vs Q E hr h => ?_)
  · obtain ⟨_, _, _, _, _, _, rfl, _⟩ := h; rfl
  · obtain ⟨τ, i, t, me, S, x, rfl, ⟨dx, vw, ab, ar, W⟩, q1, q2⟩ := h
    refine ⟨_, (pss_cons (ps_if (pt_not (pt_chain op_le op_le pe_int (pv 1) (pe_op op_sub (pe_callB call_len_seq (by rfl) T.b_len (by decide +kernel) (pa_cons (pe_fld (pv 0) rfl) pa_nil)) (pe_glob (v := .int (16)) rfl T.g_SAVED ⟨_, rfl⟩)))) (pss_one (L2N.ps_raise rfl (L2N.takes_of rfl rfl rfl rfl) (L2N.pmk_own PySem.F.excBase_ValueError T.x_Fault T.g_Fault T.kC_Fault (raises_own T.s1_Fault T.ty_Fault) rfl))) pss_nil)
      (pss_one (ps_ret (pv 1)))), ?_⟩
    refine ⟨_, rfl, _, _, rfl, rfl, _, rfl, ite3 (fun e1 => ?_) (fun e1 => ?_)⟩
    · have c1 : 0 ≤ x := of_decide_eq_true e1
      refine ⟨_, rfl, t, a.C_Ring, dx, _, _, rfl, W.ob.1, T.cl_Ring, T.n_Ring__memory, rgf__memory _ _ _ _ _ _ _ _, _, _, rfl, .inl (SqL.of W.me.1), _, _, rfl, rfl, _, _, rfl, rfl, _, rfl, ite3 (fun e2 => ?_) (fun e2 => ?_)⟩
      · refine q2 fun l => ?_
        have c2 : decide (x ≤ ((S.M.map V.int).length : Int) - 16) = false := by simpa using e2
        have c2 := of_decide_eq_false c2
        rw [List.length_map] at c2
        have := l.2
        omega
      · have c2 : decide (x ≤ ((S.M.map V.int).length : Int) - 16) = true := by simpa using e2
        have c2 := of_decide_eq_true c2
        rw [List.length_map] at c2
        exact ⟨_, rfl, q1 ⟨c1, by omega⟩⟩
    · have c1 : ¬ 0 ≤ x := of_decide_eq_false e1
      exact ⟨_, rfl, iteT (q2 fun l => c1 l.1)⟩
end

theorem getR {xs ys : List Int} {n j : Nat} (e : xs.length = n) (h : n ≤ j) : (xs ++ ys).getD j 0 = ys.getD (j - n) 0 := by
  rw [List.getD_eq_getElem?_getD, List.getD_eq_getElem?_getD, List.getElem?_append_right (by rw [e]; exact h), e]
theorem RS.fill_view {S : RS} (hb : S.b = S.A.n) (hn : 0 < S.A.n) : S.fill.A.view = S.A.view := by
  show S.A.G ++ (upF S.A.R (S.b - 1) _ (S.A.n + 1) ++ (upF S.A.L (S.b - 1) _ S.A.n ++ upF S.A.R (S.b - 1) _ S.A.n)) = _
  rw [upF_ne (by omega), upF_ne (by omega), upF_ne (by omega)]
  rfl
theorem half (M : List Int) (m : Nat) : (M.drop m).take 16 = (M.drop m).take 8 ++ (M.drop (m + 8)).take 8 := by
  rw [show 16 = 8 + 8 from rfl, List.take_add, List.drop_drop]
theorem rng_tail {f : Nat → V} {n : Nat} : ((List.range (n + 1)).map f).eraseIdx 0 = (List.range n).map fun k => f (k + 1) := by
  rw [List.range_succ_eq_map]
  simp [List.map_map, Function.comp_def]
section
variable {P : Program} {w : World} {K : PySem.W.Frag} {mg : Str → Option Value} {base : Heap} {a : Ad}
theorem ok_Ring_spill (T : Txt K mg a) : FnOk P w K mg base (L2N.CX P w) 2 a.f_Ring__spill a.d_Ring__spill ["self"] (spRSp a.C_Ring a.C_Fault) := by
  have G_locals_and_ins : FnOk P w K mg base CX0 1 _ _ _ _ := ok_locals_and_ins T
  have G_Ring__save_area : FnOk P w K mg base (L2N.CX P w) 1 _ _ _ _ := ok_Ring_save_area T
  refine T.F_Ring__spill.okN sc_Ring__spill (fun vs H Q E h => ?_) (fun cdv A outer s H vs Q E hr h => ?_)
  · obtain ⟨_, _, _, _, _, rfl, _⟩ := h; rfl
  · obtain ⟨τ, i, t, me, S, rfl, i8, ⟨dx, vw, ab, ar, W⟩, ho, hf, q1, q2⟩ := h
    refine ⟨_, (C8.pss_cut (ps_set (i := 1) sc_Ring__spill.nd rfl (Or.inl rfl) (pe_ifExp (pt_cmpR op_gt (pe_fld (pv 0) rfl) pe_int (nomark _)) (pe_ix ix_list (pe_fld (pv 0) rfl) pe_int (fun _ _ => rfl)) (pe_call G_locals_and_ins (hr.mono (by decide)) rfl T.g_locals_and_ins T.k_locals_and_ins T.bd_locals_and_ins .nil pass0 (pa_cons (pe_fld (pv 0) rfl) pa_nil))))
      (C8.pss_cut (ps_set (i := 2) sc_Ring__spill.nd rfl (Or.inl rfl) (pe_meth (pv 0) T.cl_Ring T.m_Ring__save_area G_Ring__save_area (hr.mono (by decide)) T.bd_Ring__save_area .nil (L2N.passes_call (L2N.takes_of rfl rfl rfl rfl) fun _ _ _ _ z => z) (pa_cons (pe_ix ix_list (pv 1) (pe_glob (v := .int (14)) rfl T.g_POINTER ⟨_, rfl⟩) (fun _ _ => rfl)) pa_nil)))
      (C8.pss_cut (ps_asg (pe_bm PySem.F.plainAttrs_list PySem.F.slot_list_pop PySem.F.type_list_pop mt_popAt (pe_fld (pv 0) rfl) (pa_cons pe_int pa_nil)) (pg_slc (pe_fld (pv 0) rfl) (po_some (pv 2)) (po_some (pe_op op_add (pv 2) (pe_glob (v := .int (16)) rfl T.g_SAVED ⟨_, rfl⟩)))))
      (pss_cons (ps_fldaug (pv 0) pe_int in_add)
      (pss_one (ps_fldaug (pv 0) pe_int in_sub)))))), ?_⟩
    have hw3 := ho.w3
    have hfu : S.A.n + 2 = S.b + S.W := hf
    refine ⟨fun σ H' => ∃ bl, Same H H' ∧ H' bl = some (.lst ((S.A.L (S.b + 1) ++ S.A.R (S.b + 1)).map V.int)) ∧ σ = [some (.ref t), some (.ref bl), none], ?_, ?_⟩
    · refine ⟨_, rfl, t, a.C_Ring, dx, _, _, rfl, W.ob.1, T.cl_Ring, T.n_Ring_resident, rgf_resident _ _ _ _ _ _ _ _, _, _, rfl, rfl, _, rfl, ite3 (fun e => ?_) (fun e => ?_)⟩
      · have e := of_decide_eq_true e
        have h2 : S.b + 1 < S.A.n := by omega
        exact ⟨_, rfl, t, a.C_Ring, dx, _, _, rfl, W.ob.1, T.cl_Ring, T.n_Ring__above, rgf__above _ _ _ _ _ _ _ _, _, _, _, _, rfl, rfl, SqL.of W.ab.1, atI_nat (j := 1) (rng_at (by omega)), ar (S.b + 1), Same.refl _, (W.ar _ (by omega) h2).1, rfl⟩
      · have e := of_decide_eq_false e
        have h2 : S.b + 1 = S.A.n := by omega
        refine ⟨_, rfl, t, a.C_Ring, dx, _, _, rfl, W.ob.1, T.cl_Ring, T.n_Ring__view, rgf__view _ _ _ _ _ _ _ _, vw, _, rfl, W.vw.1, fun p np => ⟨p, sN (Same.refl _) np, ?_, rfl⟩⟩
        rw [upd_same, h2, Ab.view_ins ho.a]
    rintro σ H1 ⟨bl, s1, hbl, rfl⟩
    have W1 : RGx a.C_Ring τ i H1 t dx me vw ab ar S := ⟨W.ob.same s1, W.vw.same s1, W.ab.same s1, fun k h1 h2 => (W.ar k h1 h2).same s1, W.me.same s1⟩
    have F1 : Stp τ τ [i, 8] H H1 := Stp.same s1
    have a14 : atI ((S.A.L (S.b + 1) ++ S.A.R (S.b + 1)).map V.int) 14 = some (.int S.sS) := by
      have := atI_nat (at_map (ys := S.A.L (S.b + 1) ++ S.A.R (S.b + 1)) (j := 14) (by rw [List.length_append, ho.a.l, ho.a.r]; decide))
      rw [getR (ho.a.l _) (by decide)] at this
      exact this
    clear W s1
    refine ⟨fun σ H' => H1 = H' ∧ lies S.M S.sS ∧ σ = [some (.ref t), some (.ref bl), some (.int S.sS)], ⟨_, rfl, t, dx, _, rfl, W1.ob.1, rgf_no__save_area _ _ _ _ _ _ _ _, _, rfl, _, _, _, _, rfl, rfl, SqL.of hbl, a14, τ, i, t, me, S, S.sS, rfl, ⟨dx, vw, ab, ar, W1⟩, fun l => ⟨rfl, l, rfl⟩, fun l => q2 l τ H1 ⟨dx, vw, ab, ar, W1⟩ F1⟩, ?_⟩
    rintro σ H' ⟨e0, l, rfl⟩
    subst e0
    have q1 := q1 l
    have esp : S.spill.M = S.M.take S.sS.toNat ++ (S.A.L S.b ++ S.A.R S.b) ++ S.M.drop (S.sS.toNat + 16) := rfl
    have hM := ho.m
    obtain ⟨l1, l2⟩ := l
    obtain ⟨m, hm⟩ : ∃ m : Nat, S.sS = (m : Int) := ⟨S.sS.toNat, by omega⟩
    obtain ⟨n, hn⟩ : ∃ n, S.A.n - S.b = n + 1 := ⟨S.A.n - S.b - 1, by omega⟩
    have Wab := W1.ab
    have len16 : ((S.A.L S.b ++ S.A.R S.b).map V.int).length = 16 := by rw [List.length_map, List.length_append, ho.a.l, ho.a.r]
    rw [hn] at Wab
    rw [hm] at esp l2 ⊢
    rw [Int.toNat_natCast] at esp
    refine ⟨fun σ H' => Stp τ τ [i, 8] H H' ∧ At τ H' t (.ins a.C_Ring dx (rgf S.A.n S.sp S.fi ((S.A.n : Int) + 1 - (S.b : Int)) me ((S.W : Int) - 1) vw ab)) (i, 0, 0) ∧ At τ H' vw (.lst (S.A.view.map V.int)) (i, 1, 0) ∧ At τ H' ab (.lst ((List.range n).map fun k => V.ref (ar (S.b + (k + 1))))) (i, 2, 0) ∧ (∀ k, S.b + 1 ≤ k → k < S.A.n → At τ H' (ar k) (.lst ((S.A.L k ++ S.A.R k).map V.int)) (i, 3, k)) ∧ At τ H' me (.lst (S.spill.M.map V.int)) (8, 0, 0) ∧ ∃ x, σ = [some (.ref t), some (.ref bl), x], ?_, ?_⟩
    · refine ⟨_, rfl, t, a.C_Ring, dx, _, _, rfl, W1.ob.1, T.cl_Ring, T.n_Ring__above, rgf__above _ _ _ _ _ _ _ _, .inl ⟨rfl, _, SqL.of Wab.1⟩, ab, _, 0, 0, _, rfl, rfl, Wab.1, by decide, by decide, PyProof.Rows.seqIndex?_zero (by rw [rng_len]; omega), (show _ = some (V.ref (ar S.b)) from rng_at (by omega)), ?_⟩
      rw [rng_tail]
      have c1 := W1.ob.put Wab.2 (u := .lst ((List.range n).map fun k => V.ref (ar (S.b + (k + 1))))) (by simp)
      have c2 := W1.vw.put Wab.2 (u := .lst ((List.range n).map fun k => V.ref (ar (S.b + (k + 1))))) (by simp)
      have c4 := fun k h1 h2 => (W1.ar k h1 h2).put Wab.2 (u := .lst ((List.range n).map fun k => V.ref (ar (S.b + (k + 1))))) (by simp)
      have c3 : At _ _ ab _ _ := At.set (H := H1) (o := .lst ((List.range n).map fun k => V.ref (ar (S.b + (k + 1))))) Wab.2
      have c5 := W1.me.put Wab.2 (u := .lst ((List.range n).map fun k => V.ref (ar (S.b + (k + 1))))) (by simp [i8.symm])
      have F2 := F1.put (o := .lst ((List.range n).map fun k => V.ref (ar (S.b + (k + 1))))) (by rw [Wab.2]; simp)
      have hb0 := c4 S.b (by omega) (by omega)
      refine ⟨_, rfl, t, a.C_Ring, dx, _, _, rfl, c1.1, T.cl_Ring, T.n_Ring__memory, rgf__memory _ _ _ _ _ _ _ _, _, rfl, _, rfl, _, rfl, _, _, rfl, rfl, _, rfl, me, ar S.b, _, _, m, m + 16, rfl, rfl, c5.1, hb0.1, ne_tag c5.2 hb0.2 (by simp [i8.symm]), by omega, by rw [List.length_map]; omega, ?_, ?_, ?_⟩
      · exact bounds_run (a := m) (c := m + 16) (by omega) (by rw [List.length_map]; omega)
      · rw [len16, List.length_map]
        have := sizeLine_eq
        omega
      · rw [← List.map_take, ← List.map_drop, ← List.map_append, ← List.map_append, ← esp]
        refine ⟨F2.put (by rw [c5.2]; simp), c1.put c5.2 (by simp [i8]), c2.put c5.2 (by simp [i8]), c3.put c5.2 (by simp [i8]), fun k h1 h2 => (c4 k (by omega) h2).put c5.2 (by simp [i8]), .set c5.2, _, rfl⟩
    clear Wab a14 hbl F1 W1
    rintro σ H2 ⟨F2, c1, c2, c3, c4, c5, x, rfl⟩
    refine ⟨_, rfl, t, a.C_Ring, dx, _, _, rfl, c1.1, T.cl_Ring, T.n_Ring_spills, rgf_spills _ _ _ _ _ _ _ _, _, _, rfl, rfl, dx, _, c1.1, (by show 8 < 1000; decide), ?_⟩
    rw [rgf_put_spills]
    refine ⟨_, rfl, t, a.C_Ring, dx, _, _, rfl, upd_same, T.cl_Ring, T.n_Ring_resident, rgf_resident _ _ _ _ _ _ _ _, _, _, rfl, rfl, dx, _, upd_same, (by show 8 < 1000; decide), ?_⟩
    rw [rgf_put_resident]
    have mt : (τ t).1 ∈ [i, 8] := by rw [c1.2]; simp
    refine q1 τ _ ⟨dx, vw, ab, ar, ?_, ?_, ?_, fun k h1 h2 => ?_, ?_⟩ ((F2.put mt).put mt)
    · show At _ _ _ (.ins _ dx (rgf (S.A.n : Int) (S.sp + 1) S.fi ((S.A.n : Int) + 1 - ((S.b + 1 : Nat) : Int)) me ((S.W : Int) - 1) vw ab)) _
      rw [show (S.A.n : Int) + 1 - ((S.b + 1 : Nat) : Int) = (S.A.n : Int) + 1 - (S.b : Int) - 1 by omega]
      exact .set c1.2
    · exact (c2.put c1.2 (by simp)).put c1.2 (by simp)
    · show At _ _ _ (.lst ((List.range (S.A.n - (S.b + 1))).map fun k => V.ref (ar (S.b + 1 + k)))) _
      rw [show S.A.n - (S.b + 1) = n by omega, rng_up (g := fun k => V.ref (ar (S.b + (k + 1)))) (fun k _ => by rw [show S.b + 1 + k = S.b + (k + 1) by omega])]
      exact (c3.put c1.2 (by simp)).put c1.2 (by simp)
    · exact ((c4 k h1 h2).put c1.2 (by simp)).put c1.2 (by simp)
    · exact (c5.put c1.2 (by simp [i8.symm])).put c1.2 (by simp [i8.symm])
theorem ok_Ring_fill (T : Txt K mg a) : FnOk P w K mg base (L2N.CX P w) 2 a.f_Ring__fill a.d_Ring__fill ["self"] (spRF a.C_Ring a.C_Fault) := by
  have G_locals_and_ins : FnOk P w K mg base CX0 1 _ _ _ _ := ok_locals_and_ins T
  have G_Ring__save_area : FnOk P w K mg base (L2N.CX P w) 1 _ _ _ _ := ok_Ring_save_area T
  refine T.F_Ring__fill.okN sc_Ring__fill (fun vs H Q E h => ?_) (fun cdv A outer s H vs Q E hr h => ?_)
  · obtain ⟨_, _, _, _, _, rfl, _⟩ := h; rfl
  · obtain ⟨τ, i, t, me, S, rfl, i8, ⟨dx, vw, ab, ar, W⟩, ho, hb, hn, q1, q2⟩ := h
    refine ⟨_, (C8.pss_cut (ps_set (i := 1) sc_Ring__fill.nd rfl (Or.inl rfl) (pe_meth (pv 0) T.cl_Ring T.m_Ring__save_area G_Ring__save_area (hr.mono (by decide)) T.bd_Ring__save_area .nil (L2N.passes_call (L2N.takes_of rfl rfl rfl rfl) fun _ _ _ _ z => z) (pa_cons (pe_ix ix_list (pe_call G_locals_and_ins (hr.mono (by decide)) rfl T.g_locals_and_ins T.k_locals_and_ins T.bd_locals_and_ins .nil pass0 (pa_cons (pe_fld (pv 0) rfl) pa_nil)) (pe_glob (v := .int (14)) rfl T.g_POINTER ⟨_, rfl⟩) (fun _ _ => rfl)) pa_nil)))
      (C8.pss_cut (ps_expr (pe_bm PySem.F.plainAttrs_list PySem.F.slot_list_append PySem.F.type_list_append mt_append (pe_fld (pv 0) rfl) (pa_cons (pe_slice sl_list (pe_fld (pv 0) rfl) (po_some (pv 1)) (po_some (pe_op op_add (pv 1) (pe_glob (v := .int (16)) rfl T.g_SAVED ⟨_, rfl⟩)))) pa_nil)))
      (pss_cons (ps_fldaug (pv 0) pe_int in_add)
      (pss_one (ps_fldaug (pv 0) pe_int in_add))))), ?_⟩
    have a14 : atI ((S.A.view.drop 16).map V.int) 14 = some (.int S.fS) := by
      rw [Ab.view_ins ho.a]
      have := atI_nat (at_map (ys := S.A.L S.A.n ++ S.A.R S.A.n) (j := 14) (by rw [List.length_append, ho.a.l, ho.a.r]; decide))
      rw [getR (ho.a.l _) (by decide)] at this
      exact this
    refine ⟨fun σ H' => Same H H' ∧ lies S.M S.fS ∧ σ = [some (.ref t), some (.int S.fS)], ?_, ?_⟩
    · refine ⟨_, rfl, t, dx, _, rfl, W.ob.1, rgf_no__save_area _ _ _ _ _ _ _ _, _, rfl, t, a.C_Ring, dx, _, _, rfl, W.ob.1, T.cl_Ring, T.n_Ring__view, rgf__view _ _ _ _ _ _ _ _, vw, _, rfl, W.vw.1, fun p np => ?_⟩
      have s1 := sN (Same.refl H) np (o := .lst ((S.A.view.drop 16).map V.int))
      have W1 : RGx a.C_Ring τ i (upd H p (.lst ((S.A.view.drop 16).map V.int))) t dx me vw ab ar S := ⟨W.ob.same s1, W.vw.same s1, W.ab.same s1, fun k h1 h2 => (W.ar k h1 h2).same s1, W.me.same s1⟩
      exact ⟨_, _, _, _, rfl, rfl, SqL.of upd_same, a14, τ, i, t, me, S, S.fS, rfl, ⟨dx, vw, ab, ar, W1⟩, fun l => ⟨s1, l, rfl⟩, fun l => q2 l τ _ ⟨dx, vw, ab, ar, W1⟩ (Stp.same s1)⟩
    rintro σ H1 ⟨s1, l, rfl⟩
    have W1 : RGx a.C_Ring τ i H1 t dx me vw ab ar S := ⟨W.ob.same s1, W.vw.same s1, W.ab.same s1, fun k h1 h2 => (W.ar k h1 h2).same s1, W.me.same s1⟩
    have F1 : Stp τ τ [i, 8] H H1 := Stp.same s1
    clear W s1
    have q1 := q1 l
    have hM := ho.m
    obtain ⟨l1, l2⟩ := l
    have eL : S.fill.A.L (S.b - 1) ++ S.fill.A.R (S.b - 1) = (S.M.drop S.fS.toNat).take 16 := by
      show upF S.A.L (S.b - 1) _ (S.b - 1) ++ upF S.A.R (S.b - 1) _ (S.b - 1) = _
      rw [upF_same, upF_same, half]
    obtain ⟨m, hm⟩ : ∃ m : Nat, S.fS = (m : Int) := ⟨S.fS.toNat, by omega⟩
    rw [hm] at eL l2 ⊢
    rw [Int.toNat_natCast] at eL
    have Wab := W1.ab
    rw [show S.A.n - S.b = 0 by omega] at Wab
    refine ⟨fun σ H' => ∃ p, Stp τ (tgN τ p (i, 3, S.b - 1)) [i, 8] H H' ∧ At (tgN τ p (i, 3, S.b - 1)) H' t (.ins a.C_Ring dx (rgf S.A.n S.sp S.fi ((S.A.n : Int) + 1 - (S.b : Int)) me ((S.W : Int) - 1) vw ab)) (i, 0, 0) ∧ At (tgN τ p (i, 3, S.b - 1)) H' vw (.lst (S.A.view.map V.int)) (i, 1, 0) ∧ At (tgN τ p (i, 3, S.b - 1)) H' ab (.lst [.ref p]) (i, 2, 0) ∧ At (tgN τ p (i, 3, S.b - 1)) H' p (.lst ((S.fill.A.L (S.b - 1) ++ S.fill.A.R (S.b - 1)).map V.int)) (i, 3, S.b - 1) ∧ At (tgN τ p (i, 3, S.b - 1)) H' me (.lst (S.M.map V.int)) (8, 0, 0) ∧ ∃ x, σ = [some (.ref t), x], ?_, ?_⟩
    · refine ⟨_, rfl, t, a.C_Ring, dx, _, _, rfl, W1.ob.1, T.cl_Ring, T.n_Ring__above, rgf__above _ _ _ _ _ _ _ _, .inl ⟨rfl, _, SqL.of Wab.1⟩, _, rfl, t, a.C_Ring, dx, _, _, rfl, W1.ob.1, T.cl_Ring, T.n_Ring__memory, rgf__memory _ _ _ _ _ _ _ _, _, rfl, _, rfl, _, rfl, _, _, rfl, rfl, _, rfl, me, _, rfl, SqL.of W1.me.1, fun p np => ?_⟩
      have ec : cutV (S.M.map V.int) (some (m : Int)) (some ((m : Int) + 16)) = (S.fill.A.L (S.b - 1) ++ S.fill.A.R (S.b - 1)).map V.int := by
        rw [eL, show ((m : Int) + 16) = ((m + 16 : Nat) : Int) from rfl, cut_mid _ _ _ (by omega) (by rw [List.length_map]; omega), List.map_take, List.map_drop, show m + 16 - m = 16 by omega]
      rw [ec]
      have b1 := W1.ob.new np (u := .lst ((S.fill.A.L (S.b - 1) ++ S.fill.A.R (S.b - 1)).map V.int)) (y := (i, 3, S.b - 1))
      have b2 := W1.vw.new np (u := .lst ((S.fill.A.L (S.b - 1) ++ S.fill.A.R (S.b - 1)).map V.int)) (y := (i, 3, S.b - 1))
      have b3 := Wab.new np (u := .lst ((S.fill.A.L (S.b - 1) ++ S.fill.A.R (S.b - 1)).map V.int)) (y := (i, 3, S.b - 1))
      have b5 := W1.me.new np (u := .lst ((S.fill.A.L (S.b - 1) ++ S.fill.A.R (S.b - 1)).map V.int)) (y := (i, 3, S.b - 1))
      have bp : At (tgN τ p (i, 3, S.b - 1)) (upd H1 p (.lst ((S.fill.A.L (S.b - 1) ++ S.fill.A.R (S.b - 1)).map V.int))) p _ _ := At.mk
      have F2 := F1.new np (o := .lst ((S.fill.A.L (S.b - 1) ++ S.fill.A.R (S.b - 1)).map V.int)) (x := (i, 3, S.b - 1))
      refine ⟨ab, _, _, rfl, rfl, b3.1, sz (by rw [rng_len]; decide), p, F2.put (by rw [b3.2]; simp), b1.put b3.2 (by simp), b2.put b3.2 (by simp), .set b3.2, bp.put b3.2 (by simp), b5.put b3.2 (by simp [i8.symm]), _, rfl⟩
    clear Wab a14 F1 W1
    rintro σ H2 ⟨p, F2, c1, c2, c3, c4, c5, x, rfl⟩
    refine ⟨_, rfl, t, a.C_Ring, dx, _, _, rfl, c1.1, T.cl_Ring, T.n_Ring_fills, rgf_fills _ _ _ _ _ _ _ _, _, _, rfl, rfl, dx, _, c1.1, (by show 8 < 1000; decide), ?_⟩
    rw [rgf_put_fills]
    refine ⟨_, rfl, t, a.C_Ring, dx, _, _, rfl, upd_same, T.cl_Ring, T.n_Ring_resident, rgf_resident _ _ _ _ _ _ _ _, _, _, rfl, rfl, dx, _, upd_same, (by show 8 < 1000; decide), ?_⟩
    rw [rgf_put_resident]
    have mt : (tgN τ p (i, 3, S.b - 1) t).1 ∈ [i, 8] := by rw [c1.2]; simp
    refine q1 _ _ ⟨dx, vw, ab, fun _ => p, ?_, ?_, ?_, fun k h1 h2 => ?_, ?_⟩ ((F2.put mt).put mt)
    · show At _ _ _ (.ins _ dx (rgf (S.A.n : Int) S.sp (S.fi + 1) ((S.A.n : Int) + 1 - ((S.b - 1 : Nat) : Int)) me ((S.W : Int) - 1) vw ab)) _
      rw [show (S.A.n : Int) + 1 - ((S.b - 1 : Nat) : Int) = (S.A.n : Int) + 1 - (S.b : Int) + 1 by omega]
      exact .set c1.2
    · rw [RS.fill_view hb hn]
      exact (c2.put c1.2 (by simp)).put c1.2 (by simp)
    · show At _ _ _ (.lst ((List.range (S.A.n - (S.b - 1))).map fun _ => V.ref p)) _
      rw [show S.A.n - (S.b - 1) = 1 by omega]
      exact (c3.put c1.2 (by simp)).put c1.2 (by simp)
    · have h1 : S.b - 1 ≤ k := h1
      have h2 : k < S.A.n := h2
      obtain rfl : k = S.b - 1 := by omega
      exact (c4.put c1.2 (by simp)).put c1.2 (by simp)
    · exact (c5.put c1.2 (by simp [i8.symm])).put c1.2 (by simp [i8.symm])
end

theorem RS.down_full {S : RS} (f : S.full) (l : lies S.M S.sS) : S.down = some S.spill.dn := by unfold RS.down; rw [if_pos f, if_pos l]
theorem RS.down_none {S : RS} (f : S.full) (l : ¬ lies S.M S.sS) : S.down = none := by unfold RS.down; rw [if_pos f, if_neg l]
theorem RS.down_free {S : RS} (f : ¬ S.full) : S.down = some S.dn := by unfold RS.down; rw [if_neg f]
theorem RS.up_low {S : RS} (f : S.b = S.A.n) (l : lies S.M S.fS) : S.up = some S.fill.up1 := by unfold RS.up; rw [if_pos f, if_pos l]
theorem RS.up_none {S : RS} (f : S.b = S.A.n) (l : ¬ lies S.M S.fS) : S.up = none := by unfold RS.up; rw [if_pos f, if_neg l]
theorem RS.up_free {S : RS} (f : ¬ S.b = S.A.n) : S.up = some S.up1 := by unfold RS.up; rw [if_neg f]
section
variable {P : Program} {w : World} {K : PySem.W.Frag} {mg : Str → Option Value} {base : Heap} {a : Ad}
theorem ok_Ring_shift_down (T : Txt K mg a) : FnOk P w K mg base (L2N.CX P w) 3 a.f_Ring_shift_down a.d_Ring_shift_down ["self"] (spRD a.C_Ring a.C_Fault) := by
  have G_locals_and_ins : FnOk P w K mg base CX0 1 _ _ _ _ := ok_locals_and_ins T
  have G_view_below : FnOk P w K mg base CX0 1 _ _ _ _ := ok_view_below T
  have G_Ring__spill : FnOk P w K mg base (L2N.CX P w) 2 _ _ _ _ := ok_Ring_spill T
  refine T.F_Ring_shift_down.okN sc_Ring_shift_down (fun vs H Q E h => ?_) (fun cdv A outer s H vs Q E hr h => ?_)
  · obtain ⟨_, _, _, _, _, rfl, _⟩ := h; rfl
  · obtain ⟨τ, i, t, me, S0, rfl, i8, W0, ho0, hn0, q1, q2⟩ := h
    refine ⟨_, (C8.pss_cut (ps_if (pt_cmpR op_eq (pe_fld (pv 0) rfl) (pe_fld (pv 0) rfl) (nomark _)) (pss_one (ps_expr (pe_meth0 (pv 0) T.cl_Ring T.m_Ring__spill G_Ring__spill (hr.mono (by decide)) T.bd_Ring__spill .nil (L2N.passes_call (L2N.takes_of rfl rfl rfl rfl) fun _ _ _ _ z => z)))) pss_nil)
      (pss_cons (ps_expr (pe_bm PySem.F.plainAttrs_list PySem.F.slot_list_append PySem.F.type_list_append mt_append (pe_fld (pv 0) rfl) (pa_cons (pe_call G_locals_and_ins (hr.mono (by decide)) rfl T.g_locals_and_ins T.k_locals_and_ins T.bd_locals_and_ins .nil pass0 (pa_cons (pe_fld (pv 0) rfl) pa_nil)) pa_nil)))
      (pss_cons (ps_fld (pv 0) (pe_call G_view_below (hr.mono (by decide)) rfl T.g_view_below T.k_view_below T.bd_view_below .nil pass0 (pa_cons (pe_fld (pv 0) rfl) pa_nil)) rfl)
      (pss_cons (ps_fldaug (pv 0) pe_int in_add)
      (pss_one (ps_fldaug (pv 0) pe_int in_add)))))), ?_⟩
    refine ⟨fun σ H' => ∃ S τ', RG a.C_Ring τ' i H' t me S ∧ Stp τ τ' [i, 8] H H' ∧ S.ok ∧ ¬ S.full ∧ S.A.n ≤ 199 ∧ S0.down = some S.dn ∧ σ = [some (.ref t)], ?_, ?_⟩
    · have W0' := W0
      obtain ⟨dx, vw, ab, ar, W⟩ := W0'
      refine ⟨_, rfl, t, a.C_Ring, dx, _, _, rfl, W.ob.1, T.cl_Ring, T.n_Ring_resident, rgf_resident _ _ _ _ _ _ _ _, _, rfl, t, a.C_Ring, dx, _, _, rfl, W.ob.1, T.cl_Ring, T.n_Ring__most, rgf__most _ _ _ _ _ _ _ _, rfl, _, rfl, ite3 (fun e => ?_) (fun e => ?_)⟩
      · have f : S0.full := by
          have e := of_decide_eq_true e
          have e : (S0.A.n : Int) + 1 - (S0.b : Int) = (S0.W : Int) - 1 := by injection e
          show S0.A.n + 2 = S0.b + S0.W
          omega
        exact ⟨_, rfl, t, dx, _, rfl, W.ob.1, rgf_no__spill _ _ _ _ _ _ _ _, τ, i, t, me, S0, rfl, i8, W0, ho0, f, fun l τ' H' W' F' => ⟨S0.spill, τ', W', F', (ho0.spill f l).1, (ho0.spill f l).2.1, hn0, RS.down_full f l, rfl⟩, fun l τ' H' W' F' => q2 τ' H' (RS.down_none f l) W' F'⟩
      · have f : ¬ S0.full := fun f => by
          have f : S0.A.n + 2 = S0.b + S0.W := f
          exact of_decide_eq_false e (by rw [show (S0.A.n : Int) + 1 - (S0.b : Int) = (S0.W : Int) - 1 by omega])
        exact ⟨S0, τ, W0, Stp.refl, ho0, f, hn0, RS.down_free f, rfl⟩
    clear W0
    rintro σ H0 ⟨S, τ0, ⟨dx, vw, ab, ar, W⟩, F0, ho, hf, hn, ed, rfl⟩
    have q := fun τ' H' => q1 S.dn τ' H' ed
    have hb := ho.b
    refine ⟨_, rfl, t, a.C_Ring, dx, _, _, rfl, W.ob.1, T.cl_Ring, T.n_Ring__above, rgf__above _ _ _ _ _ _ _ _, .inl ⟨rfl, _, SqL.of W.ab.1⟩, ?_⟩
    refine ⟨_, rfl, t, a.C_Ring, dx, _, _, rfl, W.ob.1, T.cl_Ring, T.n_Ring__view, rgf__view _ _ _ _ _ _ _ _, vw, _, rfl, W.vw.1, fun p np => ?_⟩
    have b1 := W.ob.new np (u := .lst ((S.A.view.drop 16).map V.int)) (y := (i, 3, S.A.n))
    have b2 := W.vw.new np (u := .lst ((S.A.view.drop 16).map V.int)) (y := (i, 3, S.A.n))
    have b3 := W.ab.new np (u := .lst ((S.A.view.drop 16).map V.int)) (y := (i, 3, S.A.n))
    have b4 := fun k h1 h2 => (W.ar k h1 h2).new np (u := .lst ((S.A.view.drop 16).map V.int)) (y := (i, 3, S.A.n))
    have b5 := W.me.new np (u := .lst ((S.A.view.drop 16).map V.int)) (y := (i, 3, S.A.n))
    have bp : At (tgN τ0 p (i, 3, S.A.n)) (upd H0 p (.lst ((S.A.view.drop 16).map V.int))) p _ _ := At.mk
    have S1 := F0.new np (o := .lst ((S.A.view.drop 16).map V.int)) (x := (i, 3, S.A.n))
    refine ⟨ab, _, _, rfl, rfl, b3.1, sz (by rw [rng_len]; omega), ?_⟩
    have eapp : ((List.range (S.A.n - S.b)).map fun k => V.ref (ar (S.b + k))) ++ [V.ref p] = (List.range (S.A.n + 1 - S.b)).map fun k => V.ref (upA ar S.A.n p (S.b + k)) := by
      rw [rng_app (f := fun k => ar (S.b + k)), show S.A.n + 1 - S.b = S.A.n - S.b + 1 by omega]
      refine rng_up fun k hk => ?_
      by_cases c : k = S.A.n - S.b
      · rw [c, upA_same, show S.b + (S.A.n - S.b) = S.A.n by omega, upA_same]
      · rw [upA_ne c, upA_ne (by omega)]
    rw [eapp]
    have c1 := b1.put b3.2 (u := .lst ((List.range (S.A.n + 1 - S.b)).map fun k => V.ref (upA ar S.A.n p (S.b + k)))) (by simp)
    have c2 := b2.put b3.2 (u := .lst ((List.range (S.A.n + 1 - S.b)).map fun k => V.ref (upA ar S.A.n p (S.b + k)))) (by simp)
    have c4 := fun k h1 h2 => (b4 k h1 h2).put b3.2 (u := .lst ((List.range (S.A.n + 1 - S.b)).map fun k => V.ref (upA ar S.A.n p (S.b + k)))) (by simp)
    have c5 := b5.put b3.2 (u := .lst ((List.range (S.A.n + 1 - S.b)).map fun k => V.ref (upA ar S.A.n p (S.b + k)))) (by simp [i8.symm])
    have cp := bp.put b3.2 (u := .lst ((List.range (S.A.n + 1 - S.b)).map fun k => V.ref (upA ar S.A.n p (S.b + k)))) (by simp)
    have c3 : At _ _ ab _ _ := At.set (H := upd H0 p (.lst ((S.A.view.drop 16).map V.int))) (o := .lst ((List.range (S.A.n + 1 - S.b)).map fun k => V.ref (upA ar S.A.n p (S.b + k)))) b3.2
    have S2 := S1.put (o := .lst ((List.range (S.A.n + 1 - S.b)).map fun k => V.ref (upA ar S.A.n p (S.b + k)))) (by rw [b3.2]; simp)
    clear b1 b2 b4 b5 bp S1
    refine ⟨_, rfl, t, a.C_Ring, dx, _, _, rfl, c1.1, T.cl_Ring, T.n_Ring__view, rgf__view _ _ _ _ _ _ _ _, vw, _, rfl, c2.1, ho.a.view, fun v H2 nv s2 hv => ?_⟩
    have d1 := c1.sameN s2 nv (y := (i, 1, 0))
    have d3 := c3.sameN s2 nv (y := (i, 1, 0))
    have d4 := fun k h1 h2 => (c4 k h1 h2).sameN s2 nv (y := (i, 1, 0))
    have d5 := c5.sameN s2 nv (y := (i, 1, 0))
    have dp := cp.sameN s2 nv (y := (i, 1, 0))
    have dv := At.in (τ := tgN τ0 p (i, 3, S.A.n)) (x := (i, 1, 0)) hv
    have S3 := S2.sameN s2 nv (x := (i, 1, 0))
    refine ⟨_, rfl, t, a.C_Ring, dx, _, rfl, d1.1, T.cl_Ring, T.n_Ring__view, (by show 8 < 1000; decide), ?_⟩
    rw [rgf_put__view]
    refine ⟨_, rfl, t, a.C_Ring, dx, _, _, rfl, upd_same, T.cl_Ring, T.n_Ring_depth, rgf_depth _ _ _ _ _ _ _ _, _, _, rfl, rfl, dx, _, upd_same, (by show 8 < 1000; decide), ?_⟩
    rw [rgf_put_depth]
    refine ⟨_, rfl, t, a.C_Ring, dx, _, _, rfl, upd_same, T.cl_Ring, T.n_Ring_resident, rgf_resident _ _ _ _ _ _ _ _, _, _, rfl, rfl, dx, _, upd_same, (by show 8 < 1000; decide), ?_⟩
    rw [rgf_put_resident]
    have mt : (tgN (tgN τ0 p (i, 3, S.A.n)) v (i, 1, 0) t).1 ∈ [i, 8] := by rw [d1.2]; simp
    refine q _ _ ⟨dx, v, ab, upA ar S.A.n p, ?_, ?_, ?_, fun k h1 h2 => ?_, ?_⟩ (((S3.put mt).put mt).put mt)
    · show At _ _ _ (.ins _ dx (rgf ((S.A.n + 1 : Nat) : Int) S.sp S.fi (((S.A.n + 1 : Nat) : Int) + 1 - (S.b : Int)) me ((S.W : Int) - 1) v ab)) _
      rw [show (((S.A.n + 1 : Nat) : Int) + 1 - (S.b : Int)) = (S.A.n : Int) + 1 - (S.b : Int) + 1 by omega]
      exact .set d1.2
    · show At _ _ _ (.lst (S.A.down.view.map V.int)) _
      rw [Ab.view_down ho.a]
      exact ((dv.put d1.2 (by simp)).put d1.2 (by simp)).put d1.2 (by simp)
    · exact ((d3.put d1.2 (by simp)).put d1.2 (by simp)).put d1.2 (by simp)
    · show At _ _ _ (.lst ((upF S.A.L (S.A.n + 1) z8 k ++ upF S.A.R (S.A.n + 2) z8 k).map V.int)) _
      have hk' : k < S.A.n + 1 := h2
      rw [upF_ne (by omega), upF_ne (by omega)]
      by_cases e : k = S.A.n
      · subst e
        rw [upA_same, ← Ab.view_ins ho.a]
        exact ((dp.put d1.2 (by simp)).put d1.2 (by simp)).put d1.2 (by simp)
      · rw [upA_ne e]
        exact (((d4 k h1 (by omega)).put d1.2 (by simp)).put d1.2 (by simp)).put d1.2 (by simp)
    · exact ((d5.put d1.2 (by simp [i8.symm])).put d1.2 (by simp [i8.symm])).put d1.2 (by simp [i8.symm])
end

section
variable {P : Program} {w : World} {K : PySem.W.Frag} {mg : Str → Option Value} {base : Heap} {a : Ad}
theorem ok_Ring_shift_up (T : Txt K mg a) : FnOk P w K mg base (L2N.CX P w) 3 a.f_Ring_shift_up a.d_Ring_shift_up ["self"] (spRU a.C_Ring a.C_Fault) := by
  have G_view_above : FnOk P w K mg base CX0 1 _ _ _ _ := ok_view_above T
  have G_Ring__fill : FnOk P w K mg base (L2N.CX P w) 2 _ _ _ _ := ok_Ring_fill T
  refine T.F_Ring_shift_up.okN sc_Ring_shift_up (fun vs H Q E h => ?_) (fun cdv A outer s H vs Q E hr h => ?_)
  · obtain ⟨_, _, _, _, _, rfl, _⟩ := h; rfl
  · obtain ⟨τ, i, t, me, S0, rfl, i8, W0, ho0, hn0, q1, q2⟩ := h
    refine ⟨_, (C8.pss_cut (ps_if (pt_cmpR op_eq (pe_fld (pv 0) rfl) pe_int (nomark _)) (pss_one (ps_expr (pe_meth0 (pv 0) T.cl_Ring T.m_Ring__fill G_Ring__fill (hr.mono (by decide)) T.bd_Ring__fill .nil (L2N.passes_call (L2N.takes_of rfl rfl rfl rfl) fun _ _ _ _ z => z)))) pss_nil)
      (pss_cons (ps_fld (pv 0) (pe_call G_view_above (hr.mono (by decide)) rfl T.g_view_above T.k_view_above T.bd_view_above .nil pass0 (pa_cons (pe_fld (pv 0) rfl) (pa_cons (pe_bm0 PySem.F.plainAttrs_list PySem.F.slot_list_pop PySem.F.type_list_pop mt_pop (pe_fld (pv 0) rfl)) pa_nil))) rfl)
      (pss_cons (ps_fldaug (pv 0) pe_int in_sub)
      (pss_one (ps_fldaug (pv 0) pe_int in_sub))))), ?_⟩
    refine ⟨fun σ H' => ∃ S τ', RG a.C_Ring τ' i H' t me S ∧ Stp τ τ' [i, 8] H H' ∧ S.ok ∧ S.b < S.A.n ∧ S0.up = some S.up1 ∧ σ = [some (.ref t)], ?_, ?_⟩
    · have W0' := W0
      obtain ⟨dx, vw, ab, ar, W⟩ := W0'
      have hb0 := ho0.b
      refine ⟨_, rfl, t, a.C_Ring, dx, _, _, rfl, W.ob.1, T.cl_Ring, T.n_Ring_resident, rgf_resident _ _ _ _ _ _ _ _, rfl, _, rfl, ite3 (fun e => ?_) (fun e => ?_)⟩
      · have f : S0.b = S0.A.n := by
          have e := of_decide_eq_true e
          have e : (S0.A.n : Int) + 1 - (S0.b : Int) = 1 := by injection e
          omega
        exact ⟨_, rfl, t, dx, _, rfl, W.ob.1, rgf_no__fill _ _ _ _ _ _ _ _, τ, i, t, me, S0, rfl, i8, W0, ho0, f, hn0, fun l τ' H' W' F' => ⟨S0.fill, τ', W', F', (ho0.fill f hn0 l).1, (ho0.fill f hn0 l).2, RS.up_low f l, rfl⟩, fun l τ' H' W' F' => q2 τ' H' (RS.up_none f l) W' F'⟩
      · have f : ¬ S0.b = S0.A.n := fun f => of_decide_eq_false e (by rw [show (S0.A.n : Int) + 1 - (S0.b : Int) = 1 by omega])
        exact ⟨S0, τ, W0, Stp.refl, ho0, by omega, RS.up_free f, rfl⟩
    clear W0
    rintro σ H0 ⟨S, τ0, ⟨dx, vw, ab, ar, W⟩, F0, ho, hb, ed, rfl⟩
    have q := fun τ' H' => q1 S.up1 τ' H' ed
    obtain ⟨m, hm⟩ : ∃ m, S.A.n = m + 1 := ⟨S.A.n - 1, by omega⟩
    obtain ⟨n, hn⟩ : ∃ n, S.A.n - S.b = n + 1 := ⟨S.A.n - S.b - 1, by omega⟩
    have W3 := W.ab
    rw [hn] at W3
    refine ⟨_, rfl, t, a.C_Ring, dx, _, _, rfl, W.ob.1, T.cl_Ring, T.n_Ring__view, rgf__view _ _ _ _ _ _ _ _, ?_⟩
    refine ⟨_, rfl, t, a.C_Ring, dx, _, _, rfl, W.ob.1, T.cl_Ring, T.n_Ring__above, rgf__above _ _ _ _ _ _ _ _, .inl ⟨rfl, _, SqL.of W3.1⟩, ab, _, V.ref (ar m), rfl, rfl, W3.1, (by rw [rng_len, show m = S.b + n by omega]; exact rng_at (f := fun k => V.ref (ar (S.b + k))) (by omega)), ?_⟩
    rw [rng_drop]
    have c1 := W.ob.put W3.2 (u := .lst ((List.range n).map fun k => V.ref (ar (S.b + k)))) (by simp)
    have c2 := W.vw.put W3.2 (u := .lst ((List.range n).map fun k => V.ref (ar (S.b + k)))) (by simp)
    have c4 := fun k h1 h2 => (W.ar k h1 h2).put W3.2 (u := .lst ((List.range n).map fun k => V.ref (ar (S.b + k)))) (by simp)
    have c5 := W.me.put W3.2 (u := .lst ((List.range n).map fun k => V.ref (ar (S.b + k)))) (by simp [i8.symm])
    have c3 : At _ _ ab _ _ := At.set (H := H0) (o := .lst ((List.range n).map fun k => V.ref (ar (S.b + k)))) W3.2
    have S2 := F0.put (o := .lst ((List.range n).map fun k => V.ref (ar (S.b + k)))) (by rw [W3.2]; simp)
    refine ⟨vw, ar m, _, _, rfl, c2.1, (c4 m (by omega) (by omega)).1, ho.a.view, by simp [ho.a.l, ho.a.r], fun v H2 nv s2 hv => ?_⟩
    have d1 := c1.sameN s2 nv (y := (i, 1, 0))
    have d3 := c3.sameN s2 nv (y := (i, 1, 0))
    have d4 := fun k h1 h2 => (c4 k h1 h2).sameN s2 nv (y := (i, 1, 0))
    have d5 := c5.sameN s2 nv (y := (i, 1, 0))
    have dv := At.in (τ := τ0) (x := (i, 1, 0)) hv
    have S3 := S2.sameN s2 nv (x := (i, 1, 0))
    refine ⟨_, rfl, t, a.C_Ring, dx, _, rfl, d1.1, T.cl_Ring, T.n_Ring__view, (by show 8 < 1000; decide), ?_⟩
    rw [rgf_put__view]
    refine ⟨_, rfl, t, a.C_Ring, dx, _, _, rfl, upd_same, T.cl_Ring, T.n_Ring_depth, rgf_depth _ _ _ _ _ _ _ _, _, _, rfl, rfl, dx, _, upd_same, (by show 8 < 1000; decide), ?_⟩
    rw [rgf_put_depth]
    refine ⟨_, rfl, t, a.C_Ring, dx, _, _, rfl, upd_same, T.cl_Ring, T.n_Ring_resident, rgf_resident _ _ _ _ _ _ _ _, _, _, rfl, rfl, dx, _, upd_same, (by show 8 < 1000; decide), ?_⟩
    rw [rgf_put_resident]
    have mt : (tgN τ0 v (i, 1, 0) t).1 ∈ [i, 8] := by rw [d1.2]; simp
    have en : S.up1.A.n = m := by show S.A.n - 1 = m; omega
    refine q _ _ ⟨dx, v, ab, ar, ?_, ?_, ?_, fun k h1 h2 => ?_, ?_⟩ (((S3.put mt).put mt).put mt)
    · rw [en]
      show At _ _ _ (.ins _ dx (rgf (m : Int) S.sp S.fi ((m : Int) + 1 - (S.b : Int)) me ((S.W : Int) - 1) v ab)) _
      rw [show (m : Int) + 1 - (S.b : Int) = (S.A.n : Int) + 1 - (S.b : Int) - 1 by omega, show (m : Int) = (S.A.n : Int) - 1 by omega]
      exact .set d1.2
    · show At _ _ _ (.lst (S.A.up.view.map V.int)) _
      rw [Ab.view_up ho.a hm]
      exact ((dv.put d1.2 (by simp)).put d1.2 (by simp)).put d1.2 (by simp)
    · rw [en]
      show At _ _ _ (.lst ((List.range (m - S.b)).map fun k => V.ref (ar (S.b + k)))) _
      rw [show m - S.b = n by omega]
      exact ((d3.put d1.2 (by simp)).put d1.2 (by simp)).put d1.2 (by simp)
    · rw [en] at h2
      exact (((d4 k h1 (by omega)).put d1.2 (by simp)).put d1.2 (by simp)).put d1.2 (by simp)
    · exact ((d5.put d1.2 (by simp [i8.symm])).put d1.2 (by simp [i8.symm])).put d1.2 (by simp [i8.symm])
end

/-! ### rules of a block over a fixed K -/
theorem ix_tupK {X : Cx} {K : PySem.W.Frag} (h : X.K = K) : IxR X (rIxT K) := by
  subst h
  exact ix_tup
theorem ix_listK {X : Cx} {K : PySem.W.Frag} (h : X.K = K) : IxR X (rIxL K) := by
  subst h
  exact ix_list
theorem call_isiK {X : Cx} {K : PySem.W.Frag} (h : X.K = K) : CallR X (.builtin "isinstance") (rIsi K) := by
  subst h
  exact call_isi
theorem sTr {H H1 H2 : Hp} (x : Same H H1) (y : Same H1 H2) : Same H H2 := fun b o e => y b o (x b o e)
/-! ### data without lists -/
mutual
inductive DT (K : PySem.W.Frag) (H : Hp) : V → PyData → Prop
  | non : DT K H .non .none
  | bl (b : Bool) : DT K H (.bl b) (.bool b)
  | int (i : Int) : DT K H (.int i) (.int i)
  | str (x : Str) : DT K H (.str x) (.str x)
  | tup {a : Addr} {xs : List V} {ds : List PyData} : SqT K H a xs → DTs K H xs ds → DT K H (.ref a) (.tuple ds)
inductive DTs (K : PySem.W.Frag) (H : Hp) : List V → List PyData → Prop
  | nil : DTs K H [] []
  | cons {v : V} {vs : List V} {d : PyData} {ds : List PyData} : DT K H v d → DTs K H vs ds → DTs K H (v :: vs) (d :: ds)
end
section
variable {K : PySem.W.Frag} {H H' H2 : Hp}
theorem DTs.len : ∀ {vs : List V} {ds : List PyData}, DTs K H vs ds → vs.length = ds.length
  | _, _, .nil => rfl
  | _, _, .cons _ r => congrArg (· + 1) r.len
theorem DTs.get : ∀ {vs : List V} {ds : List PyData} {i : Nat} {d : PyData}, DTs K H vs ds → ds[i]? = some d → ∃ v, vs[i]? = some v ∧ DT K H v d
  | _, _, _, _, .nil, e => by simp at e
  | _, _, 0, _, .cons h _, e => by
    obtain rfl := Option.some.inj e
    exact ⟨_, rfl, h⟩
  | _, _, i + 1, d, .cons _ r, e => by
    obtain ⟨v, h1, h2⟩ := r.get (i := i) (d := d) (by simpa using e)
    exact ⟨v, by simpa using h1, h2⟩
theorem DTs.at : ∀ {vs : List V} {ds : List PyData} {i : Nat} {v : V}, DTs K H vs ds → vs[i]? = some v → ∃ d, ds[i]? = some d ∧ DT K H v d
  | _, _, _, _, .nil, e => by simp at e
  | _, _, 0, _, .cons h _, e => by
    obtain rfl := Option.some.inj e
    exact ⟨_, rfl, h⟩
  | _, _, i + 1, v, .cons _ r, e => by
    obtain ⟨d, h1, h2⟩ := r.at (i := i) (v := v) (by simpa using e)
    exact ⟨d, by simpa using h1, h2⟩
theorem DTs.app : ∀ {vs ws : List V} {ds es : List PyData}, DTs K H vs ds → DTs K H ws es → DTs K H (vs ++ ws) (ds ++ es)
  | _, _, _, _, .nil, s => s
  | _, _, _, _, .cons h r, s => .cons h (r.app s)
/-- tuples stay -/
def KT (K : PySem.W.Frag) (H H' : Hp) : Prop := ∀ a xs, SqT K H a xs → SqT K H' a xs
theorem KT.same (s : Same H H') : KT K H H' := fun _ _ h => seqT s h
theorem KT.tr (x : KT K H H') (y : KT K H' H2) : KT K H H2 := fun a xs h => y a xs (x a xs h)
theorem KT.put {p : Addr} {ys : List V} {o : HO} (e : H p = some (.lst ys)) : KT K H (upd H p o) := fun a xs h => by
  rcases h with (h | ⟨u, h⟩) | h
  · exact .inl (.inl (by rw [upd_ne (ne_of h e fun z => nomatch z)]; exact h))
  · exact .inl (.inr ⟨u, by rw [upd_ne (ne_of h e fun z => nomatch z)]; exact h⟩)
  · exact .inr h
theorem KT.new {p : Addr} {o : HO} (n : H p = none) : KT K H (upd H p o) := .same (sN (Same.refl H) n)
mutual
theorem DT.keep (k : KT K H H') : ∀ {v : V} {d : PyData}, DT K H v d → DT K H' v d
  | _, _, .non => .non
  | _, _, .bl b => .bl b
  | _, _, .int b => .int b
  | _, _, .str b => .str b
  | _, _, .tup h r => .tup (k _ _ h) (r.keep k)
theorem DTs.keep (k : KT K H H') : ∀ {vs : List V} {ds : List PyData}, DTs K H vs ds → DTs K H' vs ds
  | _, _, .nil => .nil
  | _, _, .cons h r => .cons (h.keep k) (r.keep k)
end
def isTup : PyData → Bool
  | .tuple _ => true
  | _ => false
theorem DT.isT {v : V} {d : PyData} (h : DT K H v d) : ∃ t, TyX K H v t ∧ PySem.W.kitOne K t (.type "tuple") = some (isTup d) := by
  cases h with
  | non => exact ⟨_, .base .non, kit_ty (by decide +kernel : kitB "NoneType" "tuple" = some false)⟩
  | bl b => exact ⟨_, .base (.bl b), kit_ty (by decide +kernel : kitB "bool" "tuple" = some false)⟩
  | int b => exact ⟨_, .base (.int b), kit_ty (by decide +kernel : kitB "int" "tuple" = some false)⟩
  | str b => exact ⟨_, .base (.str b), kit_ty (by decide +kernel : kitB "str" "tuple" = some false)⟩
  | tup h r => exact ⟨_, tyx_tup h, kit_ty (by decide +kernel : kitB "tuple" "tuple" = some true)⟩
end

/-! ### the draws -/
structure StD (H : Hp) (st ca : Addr) (ns : List Int) : Prop where
  at' : ∃ i d n t b : Int, 0 ≤ i ∧ H st = some (.lst [.ref ca, .int i, .int d, .int n, .int t, .int b])
  ca' : H ca = some (.lst (ns.map V.int))
theorem StD.same {H H' : Hp} {st ca : Addr} {ns : List Int} (h : StD H st ca ns) (f : Same H H') : StD H' st ca ns := by
  obtain ⟨i, d, n, t, b, z, e⟩ := h.at'
  exact ⟨⟨i, d, n, t, b, z, f _ _ e⟩, f _ _ h.ca'⟩
theorem StD.new {H : Hp} {st ca p : Addr} {ns : List Int} {o : HO} (h : StD H st ca ns) (np : H p = none) : StD (upd H p o) st ca ns := h.same (sN (Same.refl H) np)
/-- all but the state stays -/
def Frs (st : Addr) (H H' : Hp) : Prop := ∀ b o, H b = some o → b ≠ st → H' b = some o
theorem Frs.refl {st : Addr} {H : Hp} : Frs st H H := fun _ _ e _ => e
theorem Frs.tr {st : Addr} {H H1 H2 : Hp} (x : Frs st H H1) (y : Frs st H1 H2) : Frs st H H2 := fun b o e n => y b o (x b o e n) n
theorem Frs.put {st : Addr} {H H1 : Hp} {o : HO} (x : Frs st H H1) : Frs st H (upd H1 st o) := fun b u e n => by rw [upd_ne n]; exact x b u e n
theorem Frs.of {st : Addr} {H H1 : Hp} (x : Same H H1) : Frs st H H1 := fun b u e _ => x b u e
theorem Frs.same {st : Addr} {H0 H H1 : Hp} (s : Same H0 H) (x : Frs st H H1) (n1 : H0 st = none) : Same H0 H1 := fun b o e => x b o (s b o e) (ne_of_none e n1)
def spMix : Sp := fun vs H Q _ => ∃ (n c : Int), vs = [.int n, .int c] ∧ ∀ v : Int, Q (.int v) H
def spState (K : PySem.W.Frag) : Sp := fun vs H Q _ => ∃ (sa : Addr) (ns : List Int) (b : Int), vs = [.ref sa, .int b] ∧ SqL K H sa (ns.map V.int) ∧ ns.length ≤ 63 ∧ ∀ (st ca : Addr) (H' : Hp) (t b : Int), H st = none → H ca = none → H' ca = some (.lst (ns.map V.int)) → H' st = some (.lst [.ref ca, .int 0, .int 0, .int 0, .int t, .int b]) → Same H H' → Q (.ref st) H'
def spDraw : Sp := fun vs H Q _ => ∃ (st ca : Addr) (ns : List Int) (m : Int), vs = [.ref st, .int m] ∧ StD H st ca ns ∧ 0 < m ∧ m < 2 ^ 62 ∧ ∀ (v : Int) (H' : Hp), 0 ≤ v → v < m → StD H' st ca ns → Frs st H H' → Q (.int v) H'
section
variable {P : Program} {w : World} {K : PySem.W.Frag} {mg : Str → Option Value} {base : Heap} {a : Ad}
theorem ok_law_mixed (T : Txt K mg a) : FnOk P w K mg base CX0 1 a.f_law_mixed a.d_law_mixed ["number", "count"] spMix := by
  refine T.F__law_mixed.ok sc_law_mixed (fun vs H Q E h => ?_) (fun cdv A outer s H vs Q E hr h => ?_)
  · obtain ⟨_, _, rfl, _⟩ := h; rfl
  · obtain ⟨n, c, rfl, q⟩ := h
    refine ⟨_, (pss_cons (ps_set (i := 2) sc_law_mixed.nd rfl (Or.inl rfl) (pe_op op_mod (pe_callTy call_int1 (by rfl) T.b_int (by decide +kernel) (pa_cons (pe_op op_add (pe_op op_add (pe_op op_mul (pv 0) pe_int) (pe_op op_mul (pv 1) pe_int)) pe_int) pa_nil)) pe_int))
      (pss_cons (ps_set (i := 3) sc_law_mixed.nd rfl (Or.inl rfl) (pe_op op_mod (pe_callTy call_int1 (by rfl) T.b_int (by decide +kernel) (pa_cons (pe_op op_add (pe_op op_add (pe_op op_mul (pv 2) (pv 2)) (pv 0)) (pe_op op_mul (pv 1) pe_int)) pa_nil)) pe_int))
      (pss_one (ps_ret (pe_op op_add (pv 3) (pe_op op_fdivW (pv 2) pe_int)))))), ?_⟩
    have hdv : ∀ i, CDivW i 64 := fun i => wide_div (b := 62) (by decide) (by decide) (by decide) (by decide)
    refine ⟨_, rfl, _, _, rfl, rfl, .inr (by decide), _, rfl, _, _, rfl, rfl, .inr (by decide), _, _, rfl, rfl, _, _, rfl, rfl, .inl ⟨_, rfl, _, _, rfl, rfl, (by show (0 : Int) < 2147483647; decide), ?_⟩⟩
    have h0 := Int.emod_nonneg (n * 48271 + c * 69621 + 7) (b := 2147483647) (by decide)
    have h1 := Int.emod_lt_of_pos (n * 48271 + c * 69621 + 7) (b := 2147483647) (by decide)
    refine ⟨_, rfl, _, rfl, _, _, rfl, rfl, .inr ⟨by omega, by omega⟩, _, rfl, _, _, rfl, rfl, _, rfl, _, _, rfl, rfl, .inr (by decide), _, _, rfl, rfl, .inl ⟨_, rfl, _, _, rfl, rfl, (by show (0 : Int) < 2147483399; decide), ?_⟩⟩
    exact ⟨_, rfl, _, rfl, _, _, rfl, rfl, hdv _, _, _, rfl, rfl, q _⟩
theorem ok_law_state (T : Txt K mg a) : FnOk P w K mg base CX0 1 a.f_law_state a.d_law_state ["script", "budget"] (spState K) := by
  refine T.F__law_state.ok sc_law_state (fun vs H Q E h => ?_) (fun cdv A outer s H vs Q E hr h => ?_)
  · obtain ⟨_, _, _, rfl, _⟩ := h; rfl
  · obtain ⟨sa, ns, b, rfl, hs, hl, q⟩ := h
    refine ⟨_, (pss_one (ps_ret (pe_lst (pa_cons (pe_callTy call_list_of (by rfl) T.b_list (by decide +kernel) (pa_cons (pv 0) pa_nil)) (pa_cons pe_int (pa_cons pe_int (pa_cons pe_int (pa_cons (pe_op op_add (pe_op op_mod (pe_callTy call_int1 (by rfl) T.b_int (by decide +kernel) (pa_cons (pe_callB (cr_sum rfl) (by rfl) T.b_sum (by decide +kernel) (pa_cons (pv 0) pa_nil)) pa_nil)) (pe_op op_pow pe_int pe_int)) (pe_callB call_len_seq (by rfl) T.b_len (by decide +kernel) (pa_cons (pv 0) pa_nil))) (pa_cons (pv 1) pa_nil))))))))), ?_⟩
    refine ⟨_, rfl, sa, _, rfl, .inl hs, fun ca nca => ?_⟩
    have s1 := sN (Same.refl H) nca (o := .lst (ns.map V.int))
    refine ⟨_, rfl, sa, ns, rfl, Same.seq s1 hs, .inl ⟨_, rfl, _, _, rfl, rfl, ⟨by decide, by decide, by decide⟩, _, _, rfl, rfl, (by show (0 : Int) < 10 ^ 15; decide), _, rfl, _, _, rfl, .inl (Same.seq s1 hs), _, _, rfl, rfl, _, rfl, (by show 6 ≤ sizeLine; decide), fun st nst => ?_⟩⟩
    have ncs : ca ≠ st := ne_of_none upd_same nst
    have ns0 : H st = none := by rw [upd_ne ncs.symm] at nst; exact nst
    exact q st ca _ _ _ ns0 nca (by rw [upd_ne ncs]; exact upd_same) upd_same (sN s1 nst)
theorem ok_law_draw (T : Txt K mg a) : FnOk P w K mg base CX0 3 a.f_law_draw a.d_law_draw ["state", "many"] spDraw := by
  have G_law_mixed : FnOk P w K mg base CX0 1 _ _ _ _ := ok_law_mixed T
  refine T.F__law_draw.ok sc_law_draw (fun vs H Q E h => ?_) (fun cdv A outer s H vs Q E hr h => ?_)
  · obtain ⟨_, _, _, _, rfl, _⟩ := h; rfl
  · obtain ⟨st, ca, ns, m, rfl, S, hm, hm2, q⟩ := h
    have hdv : ∀ i, CDivW i m := fun i => wide_div (b := 62) hm (by omega) (by decide) (by decide)
    obtain ⟨i, d, n, t, b, i0, h1⟩ := S.at'
    have h2 := S.ca'
    have nsc : st ≠ ca := ne_of h1 h2 fun e => by
      injection e with e
      cases ns with
      | nil => exact nomatch e
      | cons x r => injection e with e _; exact nomatch e
    refine ⟨_, (pss_cons (ps_set (i := 2) sc_law_draw.nd rfl (Or.inl rfl) (pe_ix ix_list (pv 0) pe_int (fun _ _ => rfl)))
      (pss_cons (ps_asg (pe_op op_add (pe_ix ix_list (pv 0) pe_int (fun _ _ => rfl)) pe_int) (pg_sub (pv 0) pe_int set_list))
      (C8.pss_cut (ps_if (PW.pt (pw_and (pt_cmpR op_eq (pe_ix ix_list (pv 0) pe_int (fun _ _ => rfl)) pe_int (nomark _)) (pw_and1 (pt_cmpR op_lt (pe_ix ix_list (pv 0) pe_int (fun _ _ => rfl)) (pe_callB call_len_seq (by rfl) T.b_len (by decide +kernel) (pa_cons (pv 2) pa_nil)) (nomark _))))) (pss_cons (ps_asg (pe_op op_add (pe_ix ix_list (pv 0) pe_int (fun _ _ => rfl)) pe_int) (pg_sub (pv 0) pe_int set_list))
      (pss_cons (ps_set (i := 3) sc_law_draw.nd rfl (Or.inl rfl) (pe_callB call_abs (by rfl) T.b_abs (by decide +kernel) (pa_cons (pe_ix ix_list (pv 2) (pe_op op_sub (pe_ix ix_list (pv 0) pe_int (fun _ _ => rfl)) pe_int) (fun _ _ => rfl)) pa_nil)))
      (pss_cons (ps_if (pt_cmpR op_lt (pv 3) (pe_op op_pow pe_int pe_int) (nomark _)) (pss_one (ps_ret (pe_op op_mod (pe_callTy call_int1 (by rfl) T.b_int (by decide +kernel) (pa_cons (pe_call G_law_mixed (hr.mono (by decide)) rfl T.g__law_mixed T.k__law_mixed T.bd__law_mixed .nil pass0 (pa_cons (pv 3) (pa_cons (pe_ix ix_list (pv 0) pe_int (fun _ _ => rfl)) pa_nil))) pa_nil)) (pv 1)))) pss_nil)
      (pss_one (ps_asg (pv 3) (pg_sub (pv 0) pe_int set_list)))))) pss_nil)
      (pss_cons (ps_if (pt_cmpR op_eq (pe_ix ix_list (pv 0) pe_int (fun _ _ => rfl)) pe_int (nomark _)) (pss_one (ps_ret (pe_op op_mod (pe_callTy call_int1 (by rfl) T.b_int (by decide +kernel) (pa_cons (pe_call G_law_mixed (hr.mono (by decide)) rfl T.g__law_mixed T.k__law_mixed T.bd__law_mixed .nil pass0 (pa_cons (pe_ix ix_list (pv 0) pe_int (fun _ _ => rfl)) (pa_cons (pe_ix ix_list (pv 0) pe_int (fun _ _ => rfl)) pa_nil))) pa_nil)) (pv 1)))) pss_nil)
      (pss_cons (ps_set (i := 4) sc_law_draw.nd rfl (Or.inl rfl) (pe_op op_mod (pe_callTy call_int1 (by rfl) T.b_int (by decide +kernel) (pa_cons (pe_ix ix_list (pv 0) pe_int (fun _ _ => rfl)) pa_nil)) (pv 1)))
      (pss_cons (ps_asg (pe_op op_fdivW (pe_callTy call_int1 (by rfl) T.b_int (by decide +kernel) (pa_cons (pe_ix ix_list (pv 0) pe_int (fun _ _ => rfl)) pa_nil)) (pv 1)) (pg_sub (pv 0) pe_int set_list))
      (pss_one (ps_ret (pv 4))))))))), ?_⟩
    refine ⟨_, rfl, _, _, _, _, rfl, rfl, SqL.of h1, rfl, ?_⟩
    refine ⟨_, rfl, _, _, _, _, rfl, rfl, SqL.of h1, rfl, _, _, rfl, rfl, _, rfl, _, _, _, _, rfl, rfl, h1, rfl, ?_⟩
    have k2 : ∀ {H2 : Hp} {o : HO}, H2 ca = some (.lst (ns.map V.int)) → upd H2 st o ca = some (.lst (ns.map V.int)) := fun e => by rw [upd_ne nsc.symm]; exact e
    refine ⟨fun σ H2 => ∃ (i d n t b : Int) (o : Option V), 0 ≤ i ∧ σ = [some (.ref st), some (.int m), some (.ref ca), o, none] ∧ H2 st = some (.lst [.ref ca, .int i, .int d, .int n, .int t, .int b]) ∧ H2 ca = some (.lst (ns.map V.int)) ∧ Frs st H H2, ?_, ?_⟩
    · have e1 : upd H st (.lst [.ref ca, .int i, .int d, .int (n + 1), .int t, .int b]) st = some (.lst [.ref ca, .int i, .int d, .int (n + 1), .int t, .int b]) := upd_same
      have e2 := k2 (o := .lst [.ref ca, .int i, .int d, .int (n + 1), .int t, .int b]) h2
      refine ⟨_, rfl, _, _, _, _, rfl, rfl, SqL.of e1, rfl, rfl, _, rfl, ite3 (fun c1 => ?_) (fun c1 => ?_)⟩
      · refine ⟨_, rfl, _, _, _, _, rfl, rfl, SqL.of e1, rfl, _, rfl, _, _, rfl, .inl (SqL.of e2), _, _, rfl, rfl, _, rfl, ite3 (fun c2 => ?_) (fun c2 => ?_)⟩
        · have hlt : i.toNat < ns.length := by
            have := of_decide_eq_true c2
            simp at this
            omega
          have hat : atI (ns.map V.int) (i + 1 - 1) = some (.int ns[i.toNat]) := by
            have hh := atI_nat (j := i.toNat) (xs := ns.map V.int) (v := V.int ns[i.toNat]) (by simp [hlt])
            rwa [show ((i.toNat : Nat) : Int) = i + 1 - 1 by omega] at hh
          refine ⟨_, rfl, _, _, _, _, rfl, rfl, SqL.of e1, rfl, _, _, rfl, rfl, _, rfl, _, _, _, _, rfl, rfl, e1, rfl, ?_⟩
          have e3 := k2 (o := .lst [.ref ca, .int (i + 1), .int d, .int (n + 1), .int t, .int b]) e2
          refine ⟨_, rfl, _, rfl, _, _, _, _, rfl, rfl, SqL.of upd_same, rfl, _, _, rfl, rfl, _, _, _, _, rfl, rfl, SqL.of e3, hat, _, rfl, ?_⟩
          refine ⟨_, rfl, _, _, rfl, rfl, ⟨by decide, by decide, by decide⟩, _, _, rfl, rfl, _, rfl, ite3 (fun c3 => ?_) (fun c3 => ?_)⟩
          · refine ⟨_, rfl, _, rfl, _, _, _, _, rfl, rfl, SqL.of upd_same, rfl, _, _, rfl, fun v => .inl ⟨_, rfl, _, rfl, _, _, rfl, rfl, hm, ?_⟩⟩
            exact q _ _ (Int.emod_nonneg _ (by omega)) (Int.emod_lt_of_pos _ hm) ⟨⟨_, _, _, _, _, by omega, upd_same⟩, e3⟩ Frs.refl.put.put
          · refine ⟨_, rfl, _, rfl, _, _, _, _, rfl, rfl, upd_same, rfl, ?_⟩
            exact ⟨i + 1, _, _, _, _, _, by omega, rfl, upd_same, k2 e3, Frs.refl.put.put.put⟩
        · exact ⟨_, _, _, _, _, _, i0, rfl, upd_same, e2, Frs.refl.put⟩
      · exact iteF ⟨_, _, _, _, _, _, i0, rfl, upd_same, e2, Frs.refl.put⟩
    · clear h1 h2 i0
      rintro σ H2 ⟨i, d, n, t, b, o, i0, rfl, h1, h2, f⟩
      refine ⟨_, rfl, _, _, _, _, rfl, rfl, SqL.of h1, rfl, rfl, _, rfl, ite3 (fun c1 => ?_) (fun c1 => ?_)⟩
      · refine ⟨_, rfl, _, _, _, _, rfl, rfl, SqL.of h1, rfl, _, rfl, _, _, _, _, rfl, rfl, SqL.of h1, rfl, _, _, rfl, fun v => .inl ⟨_, rfl, _, rfl, _, _, rfl, rfl, hm, ?_⟩⟩
        exact q _ _ (Int.emod_nonneg _ (by omega)) (Int.emod_lt_of_pos _ hm) ⟨⟨_, _, _, _, _, i0, h1⟩, h2⟩ f
      · refine ⟨_, rfl, _, _, _, _, rfl, rfl, SqL.of h1, rfl, .inl ⟨_, rfl, _, rfl, _, _, rfl, rfl, hm, ?_⟩⟩
        refine ⟨_, rfl, _, _, _, _, rfl, rfl, SqL.of h1, rfl, .inl ⟨_, rfl, _, rfl, _, _, rfl, rfl, hdv _, _, rfl, _, _, _, _, rfl, rfl, h1, rfl, ?_⟩⟩
        exact ⟨_, rfl, q _ _ (Int.emod_nonneg _ (by omega)) (Int.emod_lt_of_pos _ hm) ⟨⟨_, _, _, _, _, i0, upd_same⟩, k2 h2⟩ f.put⟩
end
section
variable {K : PySem.W.Frag} {H H' : Hp}
theorem StD.ne {st ca p : Addr} {ns : List Int} (S : StD H st ca ns) (n : H p = none) : p ≠ st := fun e => by
  obtain ⟨_, _, _, _, _, _, e1⟩ := S.at'
  rw [e, e1] at n; cases n
theorem StD.neC {st ca p : Addr} {ns : List Int} (S : StD H st ca ns) (n : H p = none) : p ≠ ca := fun e => by
  rw [e, S.ca'] at n; cases n
theorem StD.upd {st ca p : Addr} {ns : List Int} {o : HO} (S : StD H st ca ns) (n1 : p ≠ st) (n2 : p ≠ ca) : StD (L2.upd H p o) st ca ns := by
  obtain ⟨i, d, n, t, b, z, e⟩ := S.at'
  exact ⟨⟨i, d, n, t, b, z, by rw [upd_ne n1.symm]; exact e⟩, by rw [upd_ne n2.symm]; exact S.ca'⟩
theorem StD.kt {st ca : Addr} {ns : List Int} (S : StD H st ca ns) (f : Frs st H H') : KT K H H' := fun b ys h => by
  obtain ⟨_, _, _, _, _, _, e⟩ := S.at'
  rcases h with (h | ⟨u, h⟩) | h
  · exact .inl (.inl (f _ _ h (ne_of h e fun z => nomatch z)))
  · exact .inl (.inr ⟨u, f _ _ h (ne_of h e fun z => nomatch z)⟩)
  · exact .inr h
theorem Frs.new {st p : Addr} {H0 : Hp} {o : HO} (f : Frs st H0 H) (n : H p = none) : Frs st H0 (L2.upd H p o) := fun b u e m => by
  rw [upd_ne (ne_of_none (f b u e m) n)]; exact f b u e m
/-- a list that is new since H0 is written -/
theorem Frs.upN {st p : Addr} {H0 : Hp} {o : HO} (f : Frs st H0 H) (n : H0 p = none) : Frs st H0 (L2.upd H p o) := fun b u e m => by
  rw [upd_ne (ne_of_none e n)]; exact f b u e m
end

/-! ### the draws' state under tags -/
structure StDG (τ : Tg) (H : Hp) (st ca : Addr) (ns : List Int) : Prop where
  p : StD H st ca ns
  ts : τ st = (4, 0, 0)
  tc : τ ca = (4, 1, 0)
namespace StDG
variable {τ τ' : Tg} {S : List Nat} {H H' : Hp} {st ca : Addr} {ns : List Int}
theorem step (h : StDG τ H st ca ns) (s : Stp τ τ' S H H') (n4 : 4 ∉ S) : StDG τ' H' st ca ns := by
  obtain ⟨i, d, n, t, b, z, e⟩ := h.p.at'
  obtain ⟨e', t'⟩ := s.at_ e h.ts n4
  obtain ⟨c', u'⟩ := s.at_ h.p.ca' h.tc n4
  exact ⟨⟨⟨i, d, n, t, b, z, e'⟩, c'⟩, t', u'⟩
theorem draw (h : StDG τ H st ca ns) (S' : StD H' st ca ns) (f : Frs st H H') : StDG τ H' st ca ns ∧ Stp τ τ [4] H H' := by
  refine ⟨⟨S', h.ts, h.tc⟩, fun b o e n => f b o e fun z => n (by rw [z, h.ts]; simp), fun _ _ => rfl, fun b e => ?_⟩
  by_cases z : b = st
  · obtain ⟨_, _, _, _, _, _, e'⟩ := S'.at'
    rw [z]; exact some_ne e'
  · cases q : H b with
    | none => exact absurd q e
    | some o => exact some_ne (f b o q z)
end StDG
def spDrawG : Sp := fun vs H Q _ => ∃ (τ : Tg) (st ca : Addr) (ns : List Int) (m : Int), vs = [.ref st, .int m] ∧ StDG τ H st ca ns ∧ 0 < m ∧ m < 2 ^ 62 ∧ ∀ (v : Int) (H' : Hp), 0 ≤ v → v < m → StDG τ H' st ca ns → Stp τ τ [4] H H' → Q (.int v) H'
theorem ok_drawG {P : Program} {w : World} {K : PySem.W.Frag} {mg : Str → Option Value} {base : Heap} {a : Ad} (T : Txt K mg a) : FnOk P w K mg base CX0 3 a.f_law_draw a.d_law_draw ["state", "many"] spDrawG :=
  FnOk.imp (ok_law_draw T) fun vs H Q E ⟨τ, st, ca, ns, m, e, S, h1, h2, q⟩ => ⟨st, ca, ns, m, e, S.p, h1, h2, fun v H' v0 v1 S' f => q v H' v0 v1 (S.draw S' f).1 (S.draw S' f).2⟩
def spWordG : Sp := fun vs H Q _ => ∃ (τ : Tg) (st ca : Addr) (ns : List Int), vs = [.ref st] ∧ StDG τ H st ca ns ∧ ∀ (v : Int) (τ' : Tg) (H' : Hp), StDG τ' H' st ca ns → Stp τ τ' [4] H H' → Q (.int v) H'
section
variable {P : Program} {w : World} {K : PySem.W.Frag} {mg : Str → Option Value} {base : Heap} {a : Ad}
theorem ok_law_word (T : Txt K mg a) : FnOk P w K mg base CX0 4 a.f_law_word a.d_law_word ["state"] spWordG := by
  have G_law_draw : FnOk P w K mg base CX0 3 _ _ _ _ := ok_drawG T
  refine T.F__law_word.ok sc_law_word (fun vs H Q E h => ?_) (fun cdv A outer s H vs Q E hr h => ?_)
  · obtain ⟨_, _, _, _, rfl, _⟩ := h; rfl
  · obtain ⟨τ, st, ca, ns, rfl, S, q⟩ := h
    refine ⟨_, (pss_cons (ps_set (i := 1) sc_law_word.nd rfl (Or.inl rfl) (pe_call G_law_draw (hr.mono (by decide)) rfl T.g__law_draw T.k__law_draw T.bd__law_draw .nil pass0 (pa_cons (pv 0) (pa_cons pe_int pa_nil))))
      (pss_cons (ps_if (pt_cmpR op_eq (pv 1) pe_int (nomark _)) (pss_one (ps_ret (pe_ix ix_list (pe_lst (pa_cons pe_int (pa_cons (pe_un un_neg pe_int) (pa_cons pe_int (pa_cons (pe_un un_neg pe_int) pa_nil))))) (pe_call G_law_draw (hr.mono (by decide)) rfl T.g__law_draw T.k__law_draw T.bd__law_draw .nil pass0 (pa_cons (pv 0) (pa_cons pe_int pa_nil))) (fun _ _ => rfl)))) pss_nil)
      (pss_cons (ps_if (pt_cmpR op_eq (pv 1) pe_int (nomark _)) (pss_one (ps_ret (pe_op op_sub (pe_call G_law_draw (hr.mono (by decide)) rfl T.g__law_draw T.k__law_draw T.bd__law_draw .nil pass0 (pa_cons (pv 0) (pa_cons pe_int pa_nil))) pe_int))) pss_nil)
      (pss_one (ps_ret (pe_op op_sub (pe_call G_law_draw (hr.mono (by decide)) rfl T.g__law_draw T.k__law_draw T.bd__law_draw .nil pass0 (pa_cons (pv 0) (pa_cons pe_int pa_nil))) pe_int)))))), ?_⟩
    refine ⟨_, rfl, τ, st, ca, ns, 5, rfl, S, by decide, by decide, fun c H1 c0 c1 S1 F1 => ?_⟩
    refine ⟨_, rfl, rfl, _, rfl, ite3 (fun e => ?_) (fun e => ?_)⟩
    · refine ⟨_, rfl, _, rfl, (by show 4 ≤ sizeLine; decide), fun p np => ⟨_, rfl, tgN τ p (7, 0, 0), st, ca, ns, 4, rfl, S1.step ((Stp.refl (τ := τ) (S := [])).new np (x := (7, 0, 0))) (by simp), by decide, by decide, fun v H2 v0 v1 S2 F2 => ?_⟩⟩
      have hp := F2.fr p _ upd_same (by rw [tg_same]; simp)
      have F := (F1.new np (o := .lst [V.int 2147483647, V.int (-2147483648), V.int 2147483646, V.int (-2147483647)]) (x := (7, 0, 0))).tr F2
      obtain ⟨x, hx⟩ : ∃ x, atI [V.int 2147483647, V.int (-2147483648), V.int 2147483646, V.int (-2147483647)] v = some (.int x) := by
        obtain rfl | rfl | rfl | rfl : v = 0 ∨ v = 1 ∨ v = 2 ∨ v = 3 := by omega
        · exact ⟨_, at0⟩
        · exact ⟨_, atI_nat (j := 1) rfl⟩
        · exact ⟨_, atI_nat (j := 2) rfl⟩
        · exact ⟨_, atI_nat (j := 3) rfl⟩
      exact ⟨_, _, _, _, rfl, rfl, SqL.of hp, hx, q _ _ _ S2 F⟩
    refine ⟨_, rfl, rfl, _, rfl, ite3 (fun e2 => ?_) (fun e2 => ?_)⟩
    · exact ⟨_, rfl, τ, st, ca, ns, 4294967296, rfl, S1, by decide, by decide, fun v H2 v0 v1 S2 F2 => ⟨_, _, rfl, rfl, q _ _ _ S2 (F1.tr F2)⟩⟩
    · exact ⟨_, rfl, τ, st, ca, ns, 420, rfl, S1, by decide, by decide, fun v H2 v0 v1 S2 F2 => ⟨_, _, rfl, rfl, q _ _ _ S2 (F1.tr F2)⟩⟩
end

/-! ### the law's own model -/
def mdk (W : Nat) (me sh ou ro : Addr) (sp fi dp : Int) : List (Key × V) := [(.inr "windows", .int W), (.inr "memory", .ref me), (.inr "shared", .ref sh), (.inr "outs", .ref ou), (.inr "rows", .ref ro), (.inr "spills", .int sp), (.inr "fills", .int fi), (.inr "depth", .int dp)]
section
variable {W : Nat} {me sh ou ro : Addr} {sp fi dp : Int}
theorem mdk_windows : valV (mdk W me sh ou ro sp fi dp) (.inr "windows") = some (.int W) := rfl
theorem mdk_memory : valV (mdk W me sh ou ro sp fi dp) (.inr "memory") = some (.ref me) := rfl
theorem mdk_shared : valV (mdk W me sh ou ro sp fi dp) (.inr "shared") = some (.ref sh) := rfl
theorem mdk_outs : valV (mdk W me sh ou ro sp fi dp) (.inr "outs") = some (.ref ou) := rfl
theorem mdk_rows : valV (mdk W me sh ou ro sp fi dp) (.inr "rows") = some (.ref ro) := rfl
theorem mdk_spills : valV (mdk W me sh ou ro sp fi dp) (.inr "spills") = some (.int sp) := rfl
theorem mdk_fills : valV (mdk W me sh ou ro sp fi dp) (.inr "fills") = some (.int fi) := rfl
theorem mdk_depth : valV (mdk W me sh ou ro sp fi dp) (.inr "depth") = some (.int dp) := rfl
theorem mdk_put_outs {y : Addr} : putK (mdk W me sh ou ro sp fi dp) (.inr "outs") (.ref y) = mdk W me sh y ro sp fi dp := rfl
theorem mdk_put_spills {y : Int} : putK (mdk W me sh ou ro sp fi dp) (.inr "spills") (.int y) = mdk W me sh ou ro y fi dp := rfl
theorem mdk_put_fills {y : Int} : putK (mdk W me sh ou ro sp fi dp) (.inr "fills") (.int y) = mdk W me sh ou ro sp y dp := rfl
theorem mdk_put_depth {y : Int} : putK (mdk W me sh ou ro sp fi dp) (.inr "depth") (.int y) = mdk W me sh ou ro sp fi y := rfl
end
structure MRx (τ : Tg) (i : Nat) (H : Hp) (m me sh ro : Addr) (pr lr rr : Nat → Addr) (S : RS) : Prop where
  m : At τ H m (.dK (mdk S.W me sh (rr (S.A.n + 1)) ro S.sp S.fi S.A.n)) (i, 0, 0)
  sh : At τ H sh (.lst (S.A.G.map V.int)) (i, 1, 0)
  ro : At τ H ro (.lst ((List.range (S.A.n + 1 - S.b)).map fun k => V.ref (pr (S.b + k)))) (i, 2, 0)
  pr : ∀ k, S.b ≤ k → k ≤ S.A.n → At τ H (pr k) (.lst [.ref (lr k), .ref (rr k)]) (i, 3, k)
  rr : ∀ k, S.b ≤ k → k ≤ S.A.n + 1 → At τ H (rr k) (.lst ((S.A.R k).map V.int)) (i, 4, k)
  lr : ∀ k, S.b ≤ k → k ≤ S.A.n → At τ H (lr k) (.lst ((S.A.L k).map V.int)) (i, 5, k)
  me : At τ H me (.lst (S.M.map V.int)) (i, 6, 0)
def MR (τ : Tg) (i : Nat) (H : Hp) (m : Addr) (S : RS) : Prop := ∃ me sh ro pr lr rr, MRx τ i H m me sh ro pr lr rr S
theorem MRx.st {τ τ' : Tg} {i : Nat} {H H' : Hp} {m me sh ro : Addr} {pr lr rr : Nat → Addr} {S : RS} {Z : List Nat} (h : MRx τ i H m me sh ro pr lr rr S) (s : Stp τ τ' Z H H') (n : i ∉ Z) : MRx τ' i H' m me sh ro pr lr rr S :=
  ⟨h.m.st s n, h.sh.st s n, h.ro.st s n, fun k h1 h2 => (h.pr k h1 h2).st s n, fun k h1 h2 => (h.rr k h1 h2).st s n, fun k h1 h2 => (h.lr k h1 h2).st s n, h.me.st s n⟩
theorem MR.st {τ τ' : Tg} {i : Nat} {H H' : Hp} {m : Addr} {S : RS} {Z : List Nat} (h : MR τ i H m S) (s : Stp τ τ' Z H H') (n : i ∉ Z) : MR τ' i H' m S := by
  obtain ⟨me, sh, ro, pr, lr, rr, x⟩ := h
  exact ⟨me, sh, ro, pr, lr, rr, x.st s n⟩
def spAddM : Sp := fun vs H Q _ => ∃ (m : Addr) (kvs : List (Key × V)) (k : Str) (x y : Int), vs = [.ref m, .str k, .int y] ∧ H m = some (.dK kvs) ∧ valV kvs (.inr k) = some (.int x) ∧ kvs.length ≤ 8 ∧ Q .non (upd H m (.dK (putK kvs (.inr k) (.int (x + y)))))
def spLiesM : Sp := fun vs H Q _ => ∃ (m me : Addr) (kvs : List (Key × V)) (M : List Int) (x : Int), vs = [.ref m, .int x] ∧ H m = some (.dK kvs) ∧ valV kvs (.inr "memory") = some (.ref me) ∧ H me = some (.lst (M.map V.int)) ∧ Q (.bl (decide (lies M x))) H
section
variable {P : Program} {w : World} {K : PySem.W.Frag} {mg : Str → Option Value} {base : Heap} {a : Ad}
theorem ok_law_add (T : Txt K mg a) : FnOk P w K mg base CX0 1 a.f_law_add a.d_law_add ["m", "key", "by"] spAddM := by
  refine T.F__law_add.ok sc_law_add (fun vs H Q E h => ?_) (fun cdv A outer s H vs Q E hr h => ?_)
  · obtain ⟨_, _, _, _, _, rfl, _⟩ := h; rfl
  · obtain ⟨m, kvs, k, x, y, rfl, hm, hk, hl, q⟩ := h
    refine ⟨_, (pss_one (ps_dput (hu_of hr) (pv 0) (pv 1) (pe_op op_add (pe_dget (hu_of hr) (pv 0) (pv 1) (fun _ _ => rfl)) (pv 2)) rfl)), ?_⟩
    have g := DGet.k hm (k := .inr k)
    rw [hk] at g
    exact ⟨_, rfl, _, rfl, m, _, rfl, g, _, rfl, _, _, rfl, rfl, _, rfl, _, rfl, m, _, rfl, DPut.k hm (k := .inr k) (sz (by omega)), q⟩
theorem ok_law_lies (T : Txt K mg a) : FnOk P w K mg base CX0 1 a.f_law_lies a.d_law_lies ["m", "start"] spLiesM := by
  refine T.F__law_lies.ok sc_law_lies (fun vs H Q E h => ?_) (fun cdv A outer s H vs Q E hr h => ?_)
  · obtain ⟨_, _, _, _, _, rfl, _⟩ := h; rfl
  · obtain ⟨m, me, kvs, M, x, rfl, hm, hk, hme, q⟩ := h
    refine ⟨_, (pss_one (ps_ret (pe_and (pe_cmpR op_ge (pv 1) pe_int (nomark _)) (pe_one (pe_cmpR op_le (pe_op op_add (pv 1) pe_int) (pe_callB call_len_seq (by rfl) T.b_len (by decide +kernel) (pa_cons (pe_dget (hu_of hr) (pv 0) pe_str (fun _ _ => rfl)) pa_nil)) (nomark _)))))), ?_⟩
    have g := DGet.k hm (k := .inr "memory")
    rw [hk] at g
    refine ⟨_, rfl, _, _, rfl, rfl, _, rfl, ite3 (fun e => ?_) (fun e => ?_)⟩
    · have e := of_decide_eq_true e
      refine ⟨_, rfl, _, _, rfl, rfl, _, rfl, m, _, rfl, g, me, _, rfl, .inl (SqL.of hme), _, _, rfl, rfl, ?_⟩
      have c : decide (lies M x) = decide (x + 16 ≤ ((M.map V.int).length : Int)) := by
        rw [List.length_map]
        by_cases c : x + 16 ≤ (M.length : Int)
        · rw [decide_eq_true c, decide_eq_true (show lies M x from ⟨e, c⟩)]
        · rw [decide_eq_false c, decide_eq_false (fun z : lies M x => c z.2)]
      rw [c] at q
      exact q
    · have e := of_decide_eq_false e
      rw [decide_eq_false (fun z : lies M x => e z.1)] at q
      exact q
end

def grp (sh : Addr) (lr rr : Nat → Addr) (n j : Nat) : Addr := if j < 8 then sh else if j < 16 then rr (n + 1) else if j < 24 then lr n else rr n
def off (j : Nat) : Nat := if j < 8 then j else if j < 16 then j - 8 else if j < 24 then j - 16 else j - 24
theorem getL {xs ys : List Int} {n j : Nat} (e : xs.length = n) (h : j < n) : (xs ++ ys).getD j 0 = xs.getD j 0 := by
  rw [List.getD_eq_getElem?_getD, List.getD_eq_getElem?_getD, List.getElem?_append_left (by rw [e]; exact h)]
/-- where a register stands in the model -/
theorem MRx.row {τ : Tg} {i : Nat} {H : Hp} {m me sh ro : Addr} {pr lr rr : Nat → Addr} {S : RS} (h : MRx τ i H m me sh ro pr lr rr S) (o : S.ok) {j : Nat} (hj : j < 32) :
    ∃ (row : List Int) (x : Nat × Nat × Nat), At τ H (grp sh lr rr S.A.n j) (.lst (row.map V.int)) x ∧ x.1 = i ∧ off j < row.length ∧ row.getD (off j) 0 = S.A.view.getD j 0 ∧
      ∀ w, j ≠ 0 → MRx τ i (upd H (grp sh lr rr S.A.n j) (.lst ((row.set (off j) w).map V.int))) m me sh ro pr lr rr (S.wr j w) := by
  have hg := o.a.g
  have hr := o.a.r
  have hl := o.a.l
  have hb := o.b
  unfold grp off
  by_cases c1 : j < 8
  · simp only [if_pos c1]
    refine ⟨S.A.G, _, h.sh, rfl, by rw [hg]; exact c1, (getL hg c1).symm, fun w h0 => ?_⟩
    have e : S.wr j w = { S with A := { S.A with G := S.A.G.set j w } } := by unfold RS.wr Ab.wr; rw [if_neg h0, if_pos c1]
    rw [e]
    exact ⟨h.m.put h.sh.2 (by simp), .set h.sh.2, h.ro.put h.sh.2 (by simp), fun k h1 h2 => (h.pr k h1 h2).put h.sh.2 (by simp), fun k h1 h2 => (h.rr k h1 h2).put h.sh.2 (by simp), fun k h1 h2 => (h.lr k h1 h2).put h.sh.2 (by simp), h.me.put h.sh.2 (by simp)⟩
  simp only [if_neg c1]
  by_cases c2 : j < 16
  · simp only [if_pos c2]
    have hx := h.rr (S.A.n + 1) (by omega) (by omega)
    refine ⟨S.A.R (S.A.n + 1), _, hx, rfl, by rw [hr]; omega, ?_, fun w h0 => ?_⟩
    · unfold Ab.view
      rw [getR hg (by omega), getL (hr _) (by omega)]
    have e : S.wr j w = { S with A := { S.A with R := upF S.A.R (S.A.n + 1) ((S.A.R (S.A.n + 1)).set (j - 8) w) } } := by unfold RS.wr Ab.wr; rw [if_neg h0, if_neg c1, if_pos c2]
    rw [e]
    refine ⟨h.m.put hx.2 (by simp), h.sh.put hx.2 (by simp), h.ro.put hx.2 (by simp), fun k h1 h2 => (h.pr k h1 h2).put hx.2 (by simp), fun k h1 h2 => ?_, fun k h1 h2 => (h.lr k h1 h2).put hx.2 (by simp), h.me.put hx.2 (by simp)⟩
    show At _ _ _ (.lst ((upF S.A.R (S.A.n + 1) _ k).map V.int)) _
    by_cases c : k = S.A.n + 1
    · subst c; rw [upF_same]; exact .set hx.2
    · rw [upF_ne c]; exact (h.rr k h1 h2).put hx.2 (by simp [c])
  simp only [if_neg c2]
  by_cases c3 : j < 24
  · simp only [if_pos c3]
    have hx := h.lr S.A.n (by omega) (by omega)
    refine ⟨S.A.L S.A.n, _, hx, rfl, by rw [hl]; omega, ?_, fun w h0 => ?_⟩
    · unfold Ab.view
      rw [getR hg (by omega), getR (hr _) (by omega), getL (hl _) (by omega), show j - 8 - 8 = j - 16 by omega]
    have e : S.wr j w = { S with A := { S.A with L := upF S.A.L S.A.n ((S.A.L S.A.n).set (j - 16) w) } } := by unfold RS.wr Ab.wr; rw [if_neg h0, if_neg c1, if_neg c2, if_pos c3]
    rw [e]
    refine ⟨h.m.put hx.2 (by simp), h.sh.put hx.2 (by simp), h.ro.put hx.2 (by simp), fun k h1 h2 => (h.pr k h1 h2).put hx.2 (by simp), fun k h1 h2 => (h.rr k h1 h2).put hx.2 (by simp), fun k h1 h2 => ?_, h.me.put hx.2 (by simp)⟩
    show At _ _ _ (.lst ((upF S.A.L S.A.n _ k).map V.int)) _
    by_cases c : k = S.A.n
    · subst c; rw [upF_same]; exact .set hx.2
    · rw [upF_ne c]; exact (h.lr k h1 h2).put hx.2 (by simp [c])
  simp only [if_neg c3]
  have hx := h.rr S.A.n (by omega) (by omega)
  refine ⟨S.A.R S.A.n, _, hx, rfl, by rw [hr]; omega, ?_, fun w h0 => ?_⟩
  · unfold Ab.view
    rw [getR hg (by omega), getR (hr _) (by omega), getR (hl _) (by omega), show j - 8 - 8 - 8 = j - 24 by omega]
  have e : S.wr j w = { S with A := { S.A with R := upF S.A.R S.A.n ((S.A.R S.A.n).set (j - 24) w) } } := by unfold RS.wr Ab.wr; rw [if_neg h0, if_neg c1, if_neg c2, if_neg c3]
  rw [e]
  refine ⟨h.m.put hx.2 (by simp), h.sh.put hx.2 (by simp), h.ro.put hx.2 (by simp), fun k h1 h2 => (h.pr k h1 h2).put hx.2 (by simp), fun k h1 h2 => ?_, fun k h1 h2 => (h.lr k h1 h2).put hx.2 (by simp), h.me.put hx.2 (by simp)⟩
  show At _ _ _ (.lst ((upF S.A.R S.A.n _ k).map V.int)) _
  by_cases c : k = S.A.n
  · subst c; rw [upF_same]; exact .set hx.2
  · rw [upF_ne c]; exact (h.rr k h1 h2).put hx.2 (by simp [c])
def spSpotM (K : PySem.W.Frag) : Sp := fun vs H Q _ => ∃ (τ : Tg) (i : Nat) (m me sh ro : Addr) (pr lr rr : Nat → Addr) (S : RS) (j : Nat), vs = [.ref m, .int j] ∧ MRx τ i H m me sh ro pr lr rr S ∧ S.ok ∧ j < 32 ∧ ∀ p H', Same H H' → SqT K H' p [.ref (grp sh lr rr S.A.n j), .int (off j)] → Q (.ref p) H'
def spGetM : Sp := fun vs H Q _ => ∃ (τ : Tg) (i : Nat) (m : Addr) (S : RS) (j : Nat), vs = [.ref m, .int j] ∧ MR τ i H m S ∧ S.ok ∧ j < 32 ∧ ∀ H', Same H H' → Q (.int (S.A.view.getD j 0)) H'
def spSetM : Sp := fun vs H Q _ => ∃ (τ : Tg) (i : Nat) (m : Addr) (S : RS) (j : Nat) (w : Int), vs = [.ref m, .int j, .int w] ∧ MR τ i H m S ∧ S.ok ∧ j < 32 ∧ ∀ H', MR τ i H' m (S.wr j w) → Stp τ τ [i] H H' → Q .non H'
theorem MRx.same {τ : Tg} {i : Nat} {H H' : Hp} {m me sh ro : Addr} {pr lr rr : Nat → Addr} {S : RS} (h : MRx τ i H m me sh ro pr lr rr S) (s : Same H H') : MRx τ i H' m me sh ro pr lr rr S :=
  ⟨h.m.same s, h.sh.same s, h.ro.same s, fun k h1 h2 => (h.pr k h1 h2).same s, fun k h1 h2 => (h.rr k h1 h2).same s, fun k h1 h2 => (h.lr k h1 h2).same s, h.me.same s⟩
section
variable {P : Program} {w : World} {K : PySem.W.Frag} {mg : Str → Option Value} {base : Heap} {a : Ad}
theorem ok_law_spot (T : Txt K mg a) : FnOk P w K mg base CX0 1 a.f_law_spot a.d_law_spot ["m", "number"] (spSpotM K) := by
  refine T.F__law_spot.ok sc_law_spot (fun vs H Q E h => ?_) (fun cdv A outer s H vs Q E hr h => ?_)
  · obtain ⟨_, _, _, _, _, _, _, _, _, _, _, rfl, _⟩ := h; rfl
  · obtain ⟨τ, i, m, me, sh, ro, pr, lr, rr, S, j, rfl, M, o, hj, q⟩ := h
    have hb := o.b
    unfold grp off at q
    refine ⟨_, (pss_cons (ps_if (pt_cmpR op_lt (pv 1) pe_int (nomark _)) (pss_one (ps_ret (pe_tup (pa_cons (pe_dget (hu_of hr) (pv 0) pe_str (fun _ _ => rfl)) (pa_cons (pv 1) pa_nil))))) pss_nil)
      (pss_cons (ps_if (pt_cmpR op_lt (pv 1) pe_int (nomark _)) (pss_one (ps_ret (pe_tup (pa_cons (pe_dget (hu_of hr) (pv 0) pe_str (fun _ _ => rfl)) (pa_cons (pe_op op_sub (pv 1) pe_int) pa_nil))))) pss_nil)
      (pss_cons (ps_set (i := 2) sc_law_spot.nd rfl (Or.inl rfl) (pe_ix ix_list (pe_dget (hu_of hr) (pv 0) pe_str (fun _ _ => rfl)) (pe_un un_neg pe_int) (fun _ _ => rfl)))
      (pss_one (ps_ret (pe_tup (pa_cons (pe_ix ix_list (pv 2) (pe_op op_sub (pe_op op_fdivW (pv 1) pe_int) pe_int) (fun _ _ => rfl)) (pa_cons (pe_op op_mod (pe_callTy call_int1 (by rfl) T.b_int (by decide +kernel) (pa_cons (pv 1) pa_nil)) pe_int) pa_nil)))))))), ?_⟩
    refine ⟨_, rfl, _, _, rfl, rfl, _, rfl, ite3 (fun e => ?_) (fun e => ?_)⟩
    · have c : j < 8 := by have := of_decide_eq_true e; omega
      rw [if_pos c, if_pos c] at q
      exact ⟨_, rfl, m, _, rfl, DGet.k M.m.1 (k := .inr "shared"), _, rfl, (by show 2 ≤ sizeLine; decide), fun p np => q p _ (sN (Same.refl _) np) (SqT.of upd_same)⟩
    have c1 : ¬ j < 8 := by have := of_decide_eq_false e; omega
    rw [if_neg c1, if_neg c1] at q
    refine ⟨_, rfl, _, _, rfl, rfl, _, rfl, ite3 (fun e2 => ?_) (fun e2 => ?_)⟩
    · have c : j < 16 := by have := of_decide_eq_true e2; omega
      rw [if_pos c, if_pos c] at q
      refine ⟨_, rfl, m, _, rfl, DGet.k M.m.1 (k := .inr "outs"), _, rfl, _, _, rfl, rfl, (by show 2 ≤ sizeLine; decide), fun p np => q p _ (sN (Same.refl _) np) (SqT.of ?_)⟩
      rw [upd_same, show ((j - 8 : Nat) : Int) = (j : Int) - 8 by omega]
    have c2 : ¬ j < 16 := by have := of_decide_eq_false e2; omega
    rw [if_neg c2, if_neg c2] at q
    obtain ⟨c, hc⟩ : ∃ c, S.A.n + 1 - S.b = c + 1 := ⟨S.A.n - S.b, by omega⟩
    have hl := M.ro
    have hp := M.pr S.A.n hb (Nat.le_refl _)
    rw [hc] at hl
    have alast : atI ((List.range (c + 1)).map fun k => V.ref (pr (S.b + k))) (-1) = some (.ref (pr S.A.n)) := by
      rw [List.range_succ, List.map_append]
      show atI (_ ++ [V.ref (pr (S.b + c))]) (-1) = _
      rw [show S.b + c = S.A.n by omega]
      exact atI_last _ _
    refine ⟨_, rfl, m, _, rfl, DGet.k M.m.1 (k := .inr "rows"), _, rfl, _, _, _, _, rfl, rfl, SqL.of hl.1, alast, ?_⟩
    by_cases c3 : j < 24
    · rw [if_pos c3, if_pos c3] at q
      refine ⟨_, rfl, _, rfl, _, _, rfl, rfl, ⟨by decide, by decide +kernel⟩, _, _, rfl, rfl, _, _, _, _, rfl, rfl, SqL.of hp.1, (show atI _ ((j : Int) / 8 - 2) = some (.ref (lr S.A.n)) by rw [show (j : Int) / 8 - 2 = ((0 : Nat) : Int) by omega]; exact atI_nat rfl), _, rfl, .inl ⟨_, rfl, _, _, rfl, rfl, (show (0 : Int) < 8 by decide), (by show 2 ≤ sizeLine; decide), fun p np => q p _ (sN (Same.refl _) np) (SqT.of ?_)⟩⟩
      rw [upd_same, show ((j - 16 : Nat) : Int) = (j : Int) % 8 by omega]
    · rw [if_neg c3, if_neg c3] at q
      refine ⟨_, rfl, _, rfl, _, _, rfl, rfl, ⟨by decide, by decide +kernel⟩, _, _, rfl, rfl, _, _, _, _, rfl, rfl, SqL.of hp.1, (show atI _ ((j : Int) / 8 - 2) = some (.ref (rr S.A.n)) by rw [show (j : Int) / 8 - 2 = ((1 : Nat) : Int) by omega]; exact atI_nat rfl), _, rfl, .inl ⟨_, rfl, _, _, rfl, rfl, (show (0 : Int) < 8 by decide), (by show 2 ≤ sizeLine; decide), fun p np => q p _ (sN (Same.refl _) np) (SqT.of ?_)⟩⟩
      rw [upd_same, show ((j - 24 : Nat) : Int) = (j : Int) % 8 by omega]
theorem ok_law_get (T : Txt K mg a) : FnOk P w K mg base CX0 2 a.f_law_get a.d_law_get ["m", "number"] spGetM := by
  have G_law_spot : FnOk P w K mg base CX0 1 _ _ _ _ := ok_law_spot T
  refine T.F__law_get.ok sc_law_get (fun vs H Q E h => ?_) (fun cdv A outer s H vs Q E hr h => ?_)
  · obtain ⟨_, _, _, _, _, rfl, _⟩ := h; rfl
  · obtain ⟨τ, i, m, S, j, rfl, ⟨me, sh, ro, pr, lr, rr, M⟩, o, hj, q⟩ := h
    refine ⟨_, (pss_cons (ps_asg (pe_call G_law_spot (hr.mono (by decide)) rfl T.g__law_spot T.k__law_spot T.bd__law_spot .nil pass0 (pa_cons (pv 0) (pa_cons (pv 1) pa_nil))) (pg_tup rfl (pgs_cons (pg_name (i := 2) sc_law_get.nd rfl (Or.inl rfl)) (pgs_cons (pg_name (i := 3) sc_law_get.nd rfl (Or.inl rfl)) pgs_nil))))
      (pss_one (ps_ret (pe_ix ix_list (pv 2) (pv 3) (fun _ _ => rfl))))), ?_⟩
    refine ⟨_, rfl, _, rfl, τ, i, m, me, sh, ro, pr, lr, rr, S, j, rfl, M, o, hj, fun p H1 s1 hp => ?_⟩
    obtain ⟨row, x, r1, r2, r3, r4, r5⟩ := (M.same s1).row o hj
    refine ⟨p, _, rfl, hp, rfl, _, _, rfl, _, _, rfl, rfl, _, rfl, _, rfl, _, _, _, _, rfl, rfl, SqL.of r1.1, atI_nat (at_map r3), ?_⟩
    rw [r4]
    exact q _ s1
theorem ok_law_set (T : Txt K mg a) : FnOk P w K mg base CX0 2 a.f_law_set a.d_law_set ["m", "number", "word"] spSetM := by
  have G_law_spot : FnOk P w K mg base CX0 1 _ _ _ _ := ok_law_spot T
  refine T.F__law_set.ok sc_law_set (fun vs H Q E h => ?_) (fun cdv A outer s H vs Q E hr h => ?_)
  · obtain ⟨_, _, _, _, _, _, rfl, _⟩ := h; rfl
  · obtain ⟨τ, i, m, S, j, y, rfl, ⟨me, sh, ro, pr, lr, rr, M⟩, o, hj, q⟩ := h
    refine ⟨_, (pss_cons (ps_asg (pe_call G_law_spot (hr.mono (by decide)) rfl T.g__law_spot T.k__law_spot T.bd__law_spot .nil pass0 (pa_cons (pv 0) (pa_cons (pv 1) pa_nil))) (pg_tup rfl (pgs_cons (pg_name (i := 3) sc_law_set.nd rfl (Or.inl rfl)) (pgs_cons (pg_name (i := 4) sc_law_set.nd rfl (Or.inl rfl)) pgs_nil))))
      (pss_one (ps_if (pt_cmpR op_gt (pv 1) pe_int (nomark _)) (pss_one (ps_asg (pv 2) (pg_sub (pv 3) (pv 4) set_list))) pss_nil))), ?_⟩
    refine ⟨_, rfl, _, rfl, τ, i, m, me, sh, ro, pr, lr, rr, S, j, rfl, M, o, hj, fun p H1 s1 hp => ?_⟩
    obtain ⟨row, x, r1, r2, r3, r4, r5⟩ := (M.same s1).row o hj
    refine ⟨p, _, rfl, hp, rfl, _, _, rfl, _, _, rfl, rfl, _, rfl, _, _, rfl, rfl, _, rfl, ite3 (fun e => ?_) (fun e => ?_)⟩
    · have h0 : j ≠ 0 := by have := of_decide_eq_true e; omega
      refine ⟨_, rfl, _, rfl, _, rfl, _, _, _, _, rfl, rfl, r1.1, ixN_nat (by rw [List.length_map]; exact r3), ?_⟩
      rw [set_int]
      exact q _ ⟨me, sh, ro, pr, lr, rr, r5 y h0⟩ ((Stp.same s1).put (by rw [r1.2, r2]; simp))
    · have h0 : j = 0 := by have := of_decide_eq_false e; omega
      have h1 := q H1
      rw [show S.wr j y = S by unfold RS.wr; rw [show S.A.wr j y = S.A from if_pos h0]] at h1
      exact h1 ⟨me, sh, ro, pr, lr, rr, M.same s1⟩ (Stp.same s1)
end

def spRDM : Sp := fun vs H Q _ => ∃ (τ : Tg) (i : Nat) (m : Addr) (S : RS), vs = [.ref m] ∧ i ≠ 7 ∧ MR τ i H m S ∧ S.ok ∧ S.A.n ≤ 199 ∧ (∀ S' τ' H', S.down = some S' → MR τ' i H' m S' → Stp τ τ' [i] H H' → Q (.bl true) H') ∧ (∀ τ' H', S.down = none → MR τ' i H' m S → Stp τ τ' [i] H H' → Q (.bl false) H')
def spRUM : Sp := fun vs H Q _ => ∃ (τ : Tg) (i : Nat) (m : Addr) (S : RS), vs = [.ref m] ∧ i ≠ 7 ∧ MR τ i H m S ∧ S.ok ∧ 0 < S.A.n ∧ (∀ S' τ' H', S.up = some S' → MR τ' i H' m S' → Stp τ τ' [i] H H' → Q (.bl true) H') ∧ (∀ τ' H', S.up = none → MR τ' i H' m S → Stp τ τ' [i] H H' → Q (.bl false) H')
theorem MRx.memW {τ : Tg} {i : Nat} {H : Hp} {m me sh ro : Addr} {pr lr rr : Nat → Addr} {S : RS} (h : MRx τ i H m me sh ro pr lr rr S) (M : List Int) : MRx τ i (upd H me (.lst (M.map V.int))) m me sh ro pr lr rr { S with M := M } :=
  ⟨h.m.put h.me.2 (by simp), h.sh.put h.me.2 (by simp), h.ro.put h.me.2 (by simp), fun k h1 h2 => (h.pr k h1 h2).put h.me.2 (by simp), fun k h1 h2 => (h.rr k h1 h2).put h.me.2 (by simp), fun k h1 h2 => (h.lr k h1 h2).put h.me.2 (by simp), .set h.me.2⟩
theorem MRx.new {τ : Tg} {i : Nat} {H : Hp} {m me sh ro p : Addr} {o : HO} {x : Nat × Nat × Nat} {pr lr rr : Nat → Addr} {S : RS} (h : MRx τ i H m me sh ro pr lr rr S) (n : H p = none) : MRx (tgN τ p x) i (upd H p o) m me sh ro pr lr rr S :=
  ⟨h.m.new n, h.sh.new n, h.ro.new n, fun k h1 h2 => (h.pr k h1 h2).new n, fun k h1 h2 => (h.rr k h1 h2).new n, fun k h1 h2 => (h.lr k h1 h2).new n, h.me.new n⟩
structure MRy (τ : Tg) (i : Nat) (H : Hp) (m me sh ro : Addr) (pr lr rr : Nat → Addr) (S : RS) (L : Nat → List Int) (c : Nat) : Prop where
  m : At τ H m (.dK (mdk S.W me sh (rr (S.A.n + 1)) ro S.sp S.fi S.A.n)) (i, 0, 0)
  sh : At τ H sh (.lst (S.A.G.map V.int)) (i, 1, 0)
  ro : At τ H ro (.lst ((List.range (c + 1 - S.b)).map fun k => V.ref (pr (S.b + k)))) (i, 2, 0)
  pr : ∀ k, S.b ≤ k → k ≤ c → At τ H (pr k) (.lst [.ref (lr k), .ref (rr k)]) (i, 3, k)
  rr : ∀ k, S.b ≤ k → k ≤ S.A.n + 1 → At τ H (rr k) (.lst ((S.A.R k).map V.int)) (i, 4, k)
  lr : ∀ k, S.b ≤ k → k ≤ c → At τ H (lr k) (.lst ((L k).map V.int)) (i, 5, k)
  me : At τ H me (.lst (S.M.map V.int)) (i, 6, 0)
/-- a memory that is written word by word -/
def memK (M ws : List Int) (s i : Nat) : List Int := M.take s ++ ws.take i ++ M.drop (s + i)
theorem memK_len {M ws : List Int} {s i : Nat} (h : s + 16 ≤ M.length) (hw : ws.length = 16) (hi : i ≤ 16) : (memK M ws s i).length = M.length := by
  unfold memK
  simp only [List.length_append, List.length_take, List.length_drop, hw]
  omega
theorem memK_set {M ws : List Int} {s i : Nat} (h : s + 16 ≤ M.length) (hw : ws.length = 16) (hi : i < 16) : (memK M ws s i).set (s + i) (ws.getD i 0) = memK M ws s (i + 1) := by
  unfold memK
  have e1 : (M.take s ++ ws.take i).length = s + i := by simp only [List.length_append, List.length_take, hw]; omega
  rw [List.set_append_right _ _ (by rw [e1]; exact Nat.le_refl _), e1, Nat.sub_self]
  have e2 : M.drop (s + i) = M[s + i]'(by omega) :: M.drop (s + i + 1) := List.drop_eq_getElem_cons (by omega)
  rw [e2, List.set_cons_zero]
  have e3 : ws.take (i + 1) = ws.take i ++ [ws.getD i 0] := by
    rw [List.take_succ, List.getElem?_eq_getElem (by omega), List.getD_eq_getElem?_getD, List.getElem?_eq_getElem (by omega)]
    rfl
  rw [e3]
  simp [Nat.add_assoc]
theorem memK_0 {M ws : List Int} {s : Nat} : memK M ws s 0 = M := by
  unfold memK
  simp
section
variable {P : Program} {w : World} {K : PySem.W.Frag} {mg : Str → Option Value} {base : Heap} {a : Ad}
theorem ok_law_ring_down (T : Txt K mg a) : FnOk P w K mg base CX0 2 a.f_law_ring_down a.d_law_ring_down ["m"] spRDM := by
  have G_law_lies : FnOk P w K mg base CX0 1 _ _ _ _ := ok_law_lies T
  have G_law_add : FnOk P w K mg base CX0 1 _ _ _ _ := ok_law_add T
  refine T.F__law_ring_down.ok sc_law_ring_down (fun vs H Q E h => ?_) (fun cdv A outer s H vs Q E hr h => ?_)
  · obtain ⟨_, _, _, _, rfl, _⟩ := h; rfl
  · obtain ⟨τ, i, m, S0, rfl, i7, ⟨me, sh, ro, pr, lr, rr, M0⟩, o0, hn0, q1, q2⟩ := h
    refine ⟨_, (pss_cons (ps_set (i := 1) sc_law_ring_down.nd rfl (Or.inl rfl) (pe_dget (hu_of hr) (pv 0) pe_str (fun _ _ => rfl)))
      (C8.pss_cut (ps_set (i := 2) sc_law_ring_down.nd rfl (Or.inl rfl) (pe_dget (hu_of hr) (pv 0) pe_str (fun _ _ => rfl)))
      (C8.pss_cut (ps_if (pt_cmpR op_eq (pe_callB call_len_seq (by rfl) T.b_len (by decide +kernel) (pa_cons (pv 1) pa_nil)) (pe_op op_sub (pe_dget (hu_of hr) (pv 0) pe_str (fun _ _ => rfl)) pe_int) (nomark _)) (C8.pss_cut (ps_set (i := 3) sc_law_ring_down.nd rfl (Or.inl rfl) (pe_ix ix_list (pe_ix ix_list (pe_ix ix_list (pv 1) pe_int (fun _ _ => rfl)) pe_int (fun _ _ => rfl)) pe_int (fun _ _ => rfl)))
      (C8.pss_cut (ps_if (pt_not (pt_val (pe_call G_law_lies (hr.mono (by decide)) rfl T.g__law_lies T.k__law_lies T.bd__law_lies .nil pass0 (pa_cons (pv 0) (pa_cons (pv 3) pa_nil))))) (pss_one (ps_ret pe_bl)) pss_nil)
      (C8.pss_cut (ps_set (i := 4) sc_law_ring_down.nd rfl (Or.inl rfl) (pe_op op_cat (pe_ix ix_list (pe_ix ix_list (pv 1) pe_int (fun _ _ => rfl)) pe_int (fun _ _ => rfl)) (pe_ix ix_list (pe_ix ix_list (pv 1) pe_int (fun _ _ => rfl)) pe_int (fun _ _ => rfl))))
      (C8.pss_cut (ps_for PassesOwn.never rfl (pi_range1 rfl T.b_range (pa_cons pe_int pa_nil)) (pg_name (i := 5) sc_law_ring_down.nd rfl (Or.inl rfl)) (pss_one (ps_asg (pe_ix ix_list (pv 4) (pv 5) (fun _ _ => rfl)) (pg_sub (pv 2) (pe_op op_add (pv 3) (pv 5)) set_list))))
      (pss_cons (ps_expr (pe_bm PySem.F.plainAttrs_list PySem.F.slot_list_pop PySem.F.type_list_pop mt_popAt (pv 1) (pa_cons pe_int pa_nil)))
      (pss_one (ps_expr (pe_call G_law_add (hr.mono (by decide)) rfl T.g__law_add T.k__law_add T.bd__law_add .nil pass0 (pa_cons (pv 0) (pa_cons pe_str (pa_cons pe_int pa_nil))))))))))) pss_nil)
      (C8.pss_cut (ps_expr (pe_bm PySem.F.plainAttrs_list PySem.F.slot_list_append PySem.F.type_list_append mt_append (pv 1) (pa_cons (pe_lst (pa_cons (pe_op op_rep (pe_lst (pa_cons pe_int pa_nil)) pe_int) (pa_cons (pe_dget (hu_of hr) (pv 0) pe_str (fun _ _ => rfl)) pa_nil))) pa_nil)))
      (C8.pss_cut (ps_dput (hu_of hr) (pv 0) pe_str (pe_op op_rep (pe_lst (pa_cons pe_int pa_nil)) pe_int) rfl)
      (pss_cons (ps_expr (pe_call G_law_add (hr.mono (by decide)) rfl T.g__law_add T.k__law_add T.bd__law_add .nil pass0 (pa_cons (pv 0) (pa_cons pe_str (pa_cons pe_int pa_nil)))))
      (pss_one (ps_ret pe_bl)))))))), ?_⟩
    have hb0 := o0.b
    have hw0 := o0.w3
    refine ⟨_, rfl, m, _, rfl, DGet.k M0.m.1 (k := .inr "rows"), ?_⟩
    refine ⟨fun σ H' => H = H' ∧ σ = [some (.ref m), some (.ref ro), some (.ref me), none, none, none], ⟨_, rfl, m, _, rfl, DGet.k M0.m.1 (k := .inr "memory"), rfl, rfl⟩, ?_⟩
    rintro σ H' ⟨e0, rfl⟩
    subst e0
    refine ⟨fun σ H' => ∃ S τ' pr' x2 x3 x4 x5, MRx τ' i H' m me sh ro pr' lr rr S ∧ Stp τ τ' [i] H H' ∧ S.ok ∧ ¬ S.full ∧ S.A.n ≤ 199 ∧ S0.down = some S.dn ∧ σ = [some (.ref m), some (.ref ro), x2, x3, x4, x5], ?_, ?_⟩
    · refine ⟨_, rfl, _, _, rfl, .inl (SqL.of M0.ro.1), _, rfl, m, _, rfl, DGet.k M0.m.1 (k := .inr "windows"), _, _, rfl, rfl, rfl, _, rfl, ite3 (fun e => ?_) (fun e => ?_)⟩
      · have f : S0.A.n + 2 = S0.b + S0.W := by
          have e := of_decide_eq_true e
          have e : (((List.range (S0.A.n + 1 - S0.b)).map fun k => V.ref (pr (S0.b + k))).length : Int) = (S0.W : Int) - 1 := by injection e
          rw [rng_len] at e
          omega
        have f' : S0.full := f
        have p1 := M0.pr (S0.b + 1) (by omega) (by omega)
        have r1 := M0.rr (S0.b + 1) (by omega) (by omega)
        have p0 := M0.pr S0.b (Nat.le_refl _) (by omega)
        have hl0 := M0.lr S0.b (Nat.le_refl _) (by omega)
        have hr0 := M0.rr S0.b (Nat.le_refl _) (by omega)
        refine ⟨fun σ H' => H = H' ∧ σ = [some (.ref m), some (.ref ro), some (.ref me), some (.int S0.sS), none, none], ⟨_, rfl, _, _, _, _, rfl, rfl, SqL.of M0.ro.1, atI_nat (j := 1) (rng_at (by omega)), _, _, _, _, rfl, rfl, SqL.of p1.1, atI_nat (j := 1) rfl, _, _, _, _, rfl, rfl, SqL.of r1.1, atI_nat (j := 6) (at_map (by rw [o0.a.r]; decide)), rfl, rfl⟩, ?_⟩
        rintro σ H' ⟨e0, rfl⟩
        subst e0
        refine ⟨fun σ H' => H = H' ∧ lies S0.M S0.sS ∧ σ = [some (.ref m), some (.ref ro), some (.ref me), some (.int S0.sS), none, none], ⟨_, rfl, _, rfl, m, me, _, S0.M, S0.sS, rfl, M0.m.1, rfl, M0.me.1, _, rfl, ite3 (fun e2 => ?_) (fun e2 => ?_)⟩, ?_⟩
        · have l : ¬ lies S0.M S0.sS := by simpa using e2
          exact q2 τ H (RS.down_none f' l) ⟨me, sh, ro, pr, lr, rr, M0⟩ Stp.refl
        · have l : lies S0.M S0.sS := by simpa using e2
          exact ⟨rfl, l, rfl⟩
        rintro σ H' ⟨e0, l, rfl⟩
        subst e0
        obtain ⟨l1, l2⟩ := id l
        obtain ⟨z, hz⟩ : ∃ z : Nat, S0.sS = (z : Int) := ⟨S0.sS.toNat, by omega⟩
        have hw16 : (S0.A.L S0.b ++ S0.A.R S0.b).length = 16 := by rw [List.length_append, o0.a.l, o0.a.r]
        rw [hz]
        have hz16 : z + 16 ≤ S0.M.length := by omega
        refine ⟨fun σ H' => ∃ p τ', MRx τ' i H' m me sh ro pr lr rr S0 ∧ Stp τ τ' [i] H H' ∧ At τ' H' p (.lst ((S0.A.L S0.b ++ S0.A.R S0.b).map V.int)) (7, 0, 0) ∧ σ = [some (.ref m), some (.ref ro), some (.ref me), some (.int z), some (.ref p), none], ?_, ?_⟩
        · refine ⟨_, rfl, _, _, _, _, rfl, rfl, SqL.of M0.ro.1, atI_nat (j := 0) (rng_at (by omega)), _, _, _, _, rfl, rfl, SqL.of p0.1, atI_nat (j := 0) rfl, _, rfl, _, _, _, _, rfl, rfl, SqL.of M0.ro.1, atI_nat (j := 0) (rng_at (by omega)), _, _, _, _, rfl, rfl, SqL.of p0.1, atI_nat (j := 1) rfl, _, _, _, _, rfl, rfl, hl0.1, hr0.1, by simp [o0.a.l, o0.a.r]; decide, fun p np => ?_⟩
          rw [← List.map_append]
          exact ⟨p, tgN τ p (7, 0, 0), M0.new np, Stp.refl.new np, At.mk, rfl⟩
        rintro σ H1 ⟨p, τ1, M1, F1, hp, rfl⟩
        clear p1 r1 p0 hl0 hr0 M0
        refine ⟨fun σ H' => ∃ x, MRx τ1 i H' m me sh ro pr lr rr { S0 with M := memK S0.M (S0.A.L S0.b ++ S0.A.R S0.b) z 16 } ∧ Stp τ τ1 [i] H H' ∧ σ = [some (.ref m), some (.ref ro), some (.ref me), some (.int z), some (.ref p), x], ?_, ?_⟩
        · refine ⟨_, rfl, by decide, by decide, ?_⟩
          refine for_range (lo := 0) (n := (16 : Int).toNat) (fun j σ H' => MRx τ1 i H' m me sh ro pr lr rr { S0 with M := memK S0.M (S0.A.L S0.b ++ S0.A.R S0.b) z j } ∧ Stp τ τ1 [i] H H' ∧ At τ1 H' p (.lst ((S0.A.L S0.b ++ S0.A.R S0.b).map V.int)) (7, 0, 0) ∧ ∃ x, σ = [some (.ref m), some (.ref ro), some (.ref me), some (.int z), some (.ref p), x]) ?_ ?_ ?_
          · rw [memK_0]
            exact ⟨M1, F1, hp, _, rfl⟩
          · rintro j σ H2 hj ⟨M2, F2, hp2, x, rfl⟩
            refine ⟨_, rfl, _, rfl, _, _, _, _, rfl, rfl, SqL.of hp2.1, (show atI _ (0 + (j : Int)) = _ by rw [Int.zero_add]; exact atI_nat (at_map (by rw [hw16]; exact hj))), _, rfl, _, rfl, _, rfl, _, _, rfl, rfl, _, _, _, _, rfl, rfl, M2.me.1, (show ixN _ ((z : Int) + (0 + (j : Int))) = some (z + j) by rw [Int.zero_add, show (z : Int) + (j : Int) = ((z + j : Nat) : Int) by omega]; exact ixN_nat (by rw [List.length_map]; show z + j < (memK _ _ _ _).length; rw [memK_len hz16 hw16 (by omega)]; omega)), ?_⟩
            rw [set_int]
            have e := memK_set hz16 hw16 hj
            have M3 := M2.memW (memK S0.M (S0.A.L S0.b ++ S0.A.R S0.b) z (j + 1))
            rw [← e] at M3
            rw [← e]
            exact ⟨M3, F2.put (by rw [M2.me.2]; simp), hp2.put M2.me.2 (by simp [i7.symm]), _, rfl⟩
          · rintro σ H2 ⟨M2, F2, _, x, rfl⟩
            exact ⟨x, M2, F2, rfl⟩
        clear M1 F1 hp
        rintro σ H1 ⟨x, M1, F1, rfl⟩
        obtain ⟨n, hn⟩ : ∃ n, S0.A.n + 1 - S0.b = n + 1 := ⟨S0.A.n - S0.b, by omega⟩
        have Wro := M1.ro
        have esp : S0.spill.M = memK S0.M (S0.A.L S0.b ++ S0.A.R S0.b) z 16 := by
          show S0.M.take S0.sS.toNat ++ (S0.A.L S0.b ++ S0.A.R S0.b) ++ S0.M.drop (S0.sS.toNat + 16) = _
          rw [hz, Int.toNat_natCast]
          unfold memK
          rw [List.take_of_length_le (show (S0.A.L S0.b ++ S0.A.R S0.b).length ≤ 16 by omega)]
        rw [← esp] at M1
        dsimp only at Wro
        rw [hn] at Wro
        refine ⟨_, rfl, .inl ⟨rfl, _, SqL.of Wro.1⟩, ro, _, 0, 0, _, rfl, rfl, Wro.1, by decide, by decide, PyProof.Rows.seqIndex?_zero (by rw [rng_len]; omega), rng_at (by omega), ?_⟩
        rw [rng_tail]
        have nro : ∀ x : Nat × Nat × Nat, x ≠ (i, 2, 0) → ∀ {q : Addr} {o u : HO}, At τ1 H1 q o x → At τ1 (upd H1 ro u) q o x := fun x hx q o u hq => hq.put Wro.2 hx
        have cm := nro _ (by simp) M1.m (u := .lst ((List.range n).map fun k => V.ref (pr (S0.b + (k + 1)))))
        have cr : At τ1 (upd H1 ro (.lst ((List.range n).map fun k => V.ref (pr (S0.b + (k + 1)))))) ro _ (i, 2, 0) := .set Wro.2
        obtain ⟨k1, k2, k3⟩ := o0.spill f' l
        refine ⟨_, rfl, m, _, "spills", S0.sp, 1, rfl, cm.1, rfl, (by show 8 ≤ 8; decide), S0.spill, τ1, pr, _, _, _, _, ?_, (F1.put (by rw [Wro.2]; simp)).put (by rw [cm.2]; simp), k1, k2, hn0, RS.down_full f' l, rfl⟩
        have F : ∀ x : Nat × Nat × Nat, x ≠ (i, 2, 0) → x ≠ (i, 0, 0) → ∀ {q : Addr} {o u : HO}, At τ1 H1 q o x → At τ1 (upd (upd H1 ro (.lst ((List.range n).map fun k => V.ref (pr (S0.b + (k + 1)))))) m u) q o x := fun x hx h0 q o u hq => (nro x hx hq).put cm.2 h0
        refine ⟨.set cm.2, F _ (by simp) (by simp) M1.sh, ?_, fun k h1 h2 => F _ (by simp) (by simp) (M1.pr k (Nat.le_of_succ_le h1) h2), fun k h1 h2 => F _ (by simp) (by simp) (M1.rr k (Nat.le_of_succ_le h1) h2), fun k h1 h2 => F _ (by simp) (by simp) (M1.lr k (Nat.le_of_succ_le h1) h2), F _ (by simp) (by simp) M1.me⟩
        show At _ _ _ (.lst ((List.range (S0.A.n + 1 - (S0.b + 1))).map fun k => V.ref (pr (S0.b + 1 + k)))) _
        have er : ((List.range n).map fun k => V.ref (pr (S0.b + 1 + k))) = (List.range n).map fun k => V.ref (pr (S0.b + (k + 1))) := rng_up fun k _ => by rw [show S0.b + (k + 1) = S0.b + 1 + k by omega]
        rw [show S0.A.n + 1 - (S0.b + 1) = n by omega, er]
        exact cr.put cm.2 (by simp)
      · have f : ¬ S0.full := fun f => by
          have f : S0.A.n + 2 = S0.b + S0.W := f
          exact of_decide_eq_false e (by rw [rng_len, show ((S0.A.n + 1 - S0.b : Nat) : Int) = (S0.W : Int) - 1 by omega])
        exact ⟨S0, τ, pr, _, _, _, _, M0, Stp.refl, o0, f, hn0, RS.down_free f, rfl⟩
    clear M0
    rintro σ H1 ⟨S, τ1, pr, x2, x3, x4, x5, M, F1, o, hf, hn, ed, rfl⟩
    have q := fun τ' H' => q1 S.dn τ' H' ed
    have hb := o.b
    -- the new row
    refine ⟨fun σ H' => ∃ τ' pr' lr', Stp τ τ' [i] H H' ∧ MRy τ' i H' m me sh ro pr' lr' rr S (upF S.A.L (S.A.n + 1) z8) (S.A.n + 1) ∧ σ = [some (.ref m), some (.ref ro), x2, x3, x4, x5], ?_, ?_⟩
    · refine ⟨_, rfl, .inl ⟨rfl, _, SqL.of M.ro.1⟩, (by show 1 ≤ sizeLine; decide), fun b1 m1 => ⟨_, _, _, rfl, rfl, upd_same, by decide, by decide, (by show 1 * 8 ≤ sizeLine; decide), fun z nz => ?_⟩⟩
      rw [show (List.replicate (8 : Int).toNat [V.int 0]).flatten = (List.replicate 8 (0 : Int)).map V.int from rep_int 8]
      have M2 := (M.new m1 (o := .lst [V.int 0]) (x := (7, 0, 1))).new nz (o := .lst (z8.map V.int)) (x := (i, 5, S.A.n + 1))
      have F2 := (F1.new m1 (o := .lst [V.int 0]) (x := (7, 0, 1))).new nz (o := .lst (z8.map V.int)) (x := (i, 5, S.A.n + 1))
      have hz : At (tgN (tgN τ1 b1 (7, 0, 1)) z (i, 5, S.A.n + 1)) (upd (upd H1 b1 (.lst [V.int 0])) z (.lst (z8.map V.int))) z _ _ := At.mk
      refine ⟨_, rfl, m, V.ref (rr (S.A.n + 1)), rfl, DGet.k M2.m.1 (k := .inr "outs"), (by show 2 ≤ sizeLine; decide), fun p np => ?_⟩
      have M3 := M2.new np (o := .lst [.ref z, .ref (rr (S.A.n + 1))]) (x := (i, 3, S.A.n + 1))
      have F3 := F2.new np (o := .lst [.ref z, .ref (rr (S.A.n + 1))]) (x := (i, 3, S.A.n + 1))
      have hz := hz.new np (u := .lst [.ref z, .ref (rr (S.A.n + 1))]) (y := (i, 3, S.A.n + 1))
      have hp : At (tgN (tgN (tgN τ1 b1 (7, 0, 1)) z (i, 5, S.A.n + 1)) p (i, 3, S.A.n + 1)) (upd (upd (upd H1 b1 (.lst [V.int 0])) z (.lst (z8.map V.int))) p (.lst [.ref z, .ref (rr (S.A.n + 1))])) p _ _ := At.mk
      have eapp : ((List.range (S.A.n + 1 - S.b)).map fun k => V.ref (pr (S.b + k))) ++ [V.ref p] = (List.range (S.A.n + 1 + 1 - S.b)).map fun k => V.ref (upA pr (S.A.n + 1) p (S.b + k)) := by
        rw [rng_app (f := fun k => pr (S.b + k)), show S.A.n + 1 + 1 - S.b = S.A.n + 1 - S.b + 1 by omega]
        refine rng_up fun k hk => ?_
        by_cases c : k = S.A.n + 1 - S.b
        · rw [c, upA_same, show S.b + (S.A.n + 1 - S.b) = S.A.n + 1 by omega, upA_same]
        · rw [upA_ne c, upA_ne (by omega)]
      refine ⟨ro, _, _, rfl, rfl, M3.ro.1, sz (by rw [rng_len]; omega), _, upA pr (S.A.n + 1) p, upA lr (S.A.n + 1) z, F3.put (by rw [M3.ro.2]; simp), ?_, rfl⟩
      rw [eapp]
      refine ⟨M3.m.put M3.ro.2 (by simp), M3.sh.put M3.ro.2 (by simp), .set M3.ro.2, fun k h1 h2 => ?_, fun k h1 h2 => (M3.rr k h1 h2).put M3.ro.2 (by simp), fun k h1 h2 => ?_, M3.me.put M3.ro.2 (by simp)⟩
      · by_cases c : k = S.A.n + 1
        · subst c; rw [upA_same, upA_same]; exact hp.put M3.ro.2 (by simp)
        · rw [upA_ne c, upA_ne c]; exact (M3.pr k h1 (by omega)).put M3.ro.2 (by simp)
      · by_cases c : k = S.A.n + 1
        · subst c; rw [upA_same, upF_same]; exact hz.put M3.ro.2 (by simp)
        · rw [upA_ne c, upF_ne c]; exact (M3.lr k h1 (by omega)).put M3.ro.2 (by simp)
    clear M F1
    rintro σ H1 ⟨τ1, pr, lr, F1, M, rfl⟩
    -- the new outs
    refine ⟨fun σ H' => ∃ z2 τ', Stp τ τ' [i] H H' ∧ At τ' H' m (.dK (mdk S.W me sh z2 ro S.sp S.fi S.A.n)) (i, 0, 0) ∧ At τ' H' z2 (.lst (z8.map V.int)) (i, 4, S.A.n + 2) ∧ (∀ (x : Nat × Nat × Nat), x ≠ (i, 0, 0) → ∀ {q : Addr} {o : HO}, At τ1 H1 q o x → At τ' H' q o x) ∧ σ = [some (.ref m), some (.ref ro), x2, x3, x4, x5], ?_, ?_⟩
    · refine ⟨(by show 1 ≤ sizeLine; decide), fun b2 m2 => ⟨_, _, _, rfl, rfl, upd_same, by decide, by decide, (by show 1 * 8 ≤ sizeLine; decide), fun z2 nz2 => ?_⟩⟩
      rw [show (List.replicate (8 : Int).toNat [V.int 0]).flatten = (List.replicate 8 (0 : Int)).map V.int from rep_int 8]
      have cm := (M.m.new m2 (u := .lst [V.int 0]) (y := (7, 0, 2))).new nz2 (u := .lst (z8.map V.int)) (y := (i, 4, S.A.n + 2))
      have F2 := (F1.new m2 (o := .lst [V.int 0]) (x := (7, 0, 2))).new nz2 (o := .lst (z8.map V.int)) (x := (i, 4, S.A.n + 2))
      have cz : At (tgN (tgN τ1 b2 (7, 0, 2)) z2 (i, 4, S.A.n + 2)) (upd (upd H1 b2 (.lst [V.int 0])) z2 (.lst (z8.map V.int))) z2 _ _ := At.mk
      refine ⟨_, rfl, m, _, rfl, DPut.k cm.1 (k := .inr "outs") (sz (by show 8 ≤ 900; decide)), z2, _, F2.put (by rw [cm.2]; simp), .set cm.2, cz.put cm.2 (by simp), fun x hx q o hq => ((hq.new m2).new nz2).put cm.2 hx, rfl⟩
    rintro σ H2 ⟨z2, τ2, F2, cm, cz, F, rfl⟩
    refine ⟨_, rfl, m, _, "depth", S.A.n, 1, rfl, cm.1, rfl, (by show 8 ≤ 8; decide), ?_⟩
    refine q τ2 _ ⟨me, sh, ro, pr, lr, upA rr (S.A.n + 2) z2, ?_⟩ (F2.put (by rw [cm.2]; simp))
    have G : ∀ (x : Nat × Nat × Nat), x ≠ (i, 0, 0) → ∀ {q : Addr} {o u : HO}, At τ1 H1 q o x → At τ2 (upd H2 m u) q o x := fun x hx q o u hq => (F x hx hq).put cm.2 hx
    refine ⟨?_, G _ (by simp) M.sh, G _ (by simp) M.ro, fun k h1 h2 => ?_, fun k h1 h2 => ?_, fun k h1 h2 => ?_, G _ (by simp) M.me⟩
    · show At _ _ _ (.dK (mdk S.W me sh (upA rr (S.A.n + 2) z2 (S.A.n + 2)) ro S.sp S.fi ((S.A.n + 1 : Nat) : Int))) _
      rw [upA_same, show ((S.A.n + 1 : Nat) : Int) = (S.A.n : Int) + 1 from rfl]
      exact .set cm.2
    · have h2 : k ≤ S.A.n + 1 := h2
      rw [upA_ne (by omega)]
      exact G _ (by simp) (M.pr k h1 h2)
    · have h2 : k ≤ S.A.n + 2 := h2
      show At _ _ _ (.lst ((upF S.A.R (S.A.n + 2) z8 k).map V.int)) _
      by_cases c : k = S.A.n + 2
      · subst c
        rw [upA_same, upF_same]
        exact cz.put cm.2 (by simp)
      · rw [upA_ne c, upF_ne c]
        exact G _ (by simp) (M.rr k h1 (by omega))
    · exact G _ (by simp) (M.lr k h1 h2)
end

section
variable {P : Program} {w : World} {K : PySem.W.Frag} {mg : Str → Option Value} {base : Heap} {a : Ad}
theorem ok_law_ring_up (T : Txt K mg a) : FnOk P w K mg base CX0 2 a.f_law_ring_up a.d_law_ring_up ["m"] spRUM := by
  have G_law_lies : FnOk P w K mg base CX0 1 _ _ _ _ := ok_law_lies T
  have G_law_add : FnOk P w K mg base CX0 1 _ _ _ _ := ok_law_add T
  refine T.F__law_ring_up.ok sc_law_ring_up (fun vs H Q E h => ?_) (fun cdv A outer s H vs Q E hr h => ?_)
  · obtain ⟨_, _, _, _, rfl, _⟩ := h; rfl
  · obtain ⟨τ, i, m, S0, rfl, i7, ⟨me, sh, ro, pr, lr, rr, M0⟩, o0, hn0, q1, q2⟩ := h
    refine ⟨_, (pss_cons (ps_set (i := 1) sc_law_ring_up.nd rfl (Or.inl rfl) (pe_dget (hu_of hr) (pv 0) pe_str (fun _ _ => rfl)))
      (C8.pss_cut (ps_if (pt_cmpR op_eq (pe_callB call_len_seq (by rfl) T.b_len (by decide +kernel) (pa_cons (pv 1) pa_nil)) pe_int (nomark _)) (C8.pss_cut (ps_set (i := 2) sc_law_ring_up.nd rfl (Or.inl rfl) (pe_ix ix_list (pe_ix ix_list (pe_ix ix_list (pv 1) pe_int (fun _ _ => rfl)) pe_int (fun _ _ => rfl)) pe_int (fun _ _ => rfl)))
      (C8.pss_cut (ps_if (pt_not (pt_val (pe_call G_law_lies (hr.mono (by decide)) rfl T.g__law_lies T.k__law_lies T.bd__law_lies .nil pass0 (pa_cons (pv 0) (pa_cons (pv 2) pa_nil))))) (pss_one (ps_ret pe_bl)) pss_nil)
      (C8.pss_cut (ps_set (i := 3) sc_law_ring_up.nd rfl (Or.inl rfl) (pe_slice sl_list (pe_dget (hu_of hr) (pv 0) pe_str (fun _ _ => rfl)) (po_some (pv 2)) (po_some (pe_op op_add (pv 2) pe_int))))
      (C8.pss_cut (ps_expr (pe_bm PySem.F.plainAttrs_list PySem.F.slot_list_insert PySem.F.type_list_insert mt_insert (pv 1) (pa_cons pe_int (pa_cons (pe_lst (pa_cons (pe_slice sl_list (pv 3) po_none (po_some pe_int)) (pa_cons (pe_slice sl_list (pv 3) (po_some pe_int) po_none) pa_nil))) pa_nil))))
      (pss_one (ps_expr (pe_call G_law_add (hr.mono (by decide)) rfl T.g__law_add T.k__law_add T.bd__law_add .nil pass0 (pa_cons (pv 0) (pa_cons pe_str (pa_cons pe_int pa_nil)))))))))) pss_nil)
      (C8.pss_cut (ps_set (i := 4) sc_law_ring_up.nd rfl (Or.inl rfl) (pe_bm0 PySem.F.plainAttrs_list PySem.F.slot_list_pop PySem.F.type_list_pop mt_pop (pv 1)))
      (C8.pss_cut (ps_dput (hu_of hr) (pv 0) pe_str (pe_ix ix_list (pv 4) pe_int (fun _ _ => rfl)) rfl)
      (pss_cons (ps_expr (pe_call G_law_add (hr.mono (by decide)) rfl T.g__law_add T.k__law_add T.bd__law_add .nil pass0 (pa_cons (pv 0) (pa_cons pe_str (pa_cons (pe_un un_neg pe_int) pa_nil)))))
      (pss_one (ps_ret pe_bl))))))), ?_⟩
    have hb0 := o0.b
    refine ⟨_, rfl, m, _, rfl, DGet.k M0.m.1 (k := .inr "rows"), ?_⟩
    refine ⟨fun σ H' => ∃ S τ' pr' lr' rr' x2 x3, MRx τ' i H' m me sh ro pr' lr' rr' S ∧ Stp τ τ' [i] H H' ∧ S.ok ∧ S.b < S.A.n ∧ S0.up = some S.up1 ∧ σ = [some (.ref m), some (.ref ro), x2, x3, none], ?_, ?_⟩
    · refine ⟨_, rfl, _, _, rfl, .inl (SqL.of M0.ro.1), rfl, _, rfl, ite3 (fun e => ?_) (fun e => ?_)⟩
      · have f : S0.b = S0.A.n := by
          have e := of_decide_eq_true e
          have e : (((List.range (S0.A.n + 1 - S0.b)).map fun k => V.ref (pr (S0.b + k))).length : Int) = 1 := by injection e
          rw [rng_len] at e
          omega
        have p0 := M0.pr S0.b (Nat.le_refl _) (by omega)
        have r0 := M0.rr S0.b (Nat.le_refl _) (by omega)
        have a6 : atI ((S0.A.R S0.b).map V.int) 6 = some (.int S0.fS) := by
          unfold RS.fS
          rw [← f]
          exact atI_nat (j := 6) (at_map (by rw [o0.a.r]; decide))
        refine ⟨fun σ H' => H = H' ∧ σ = [some (.ref m), some (.ref ro), some (.int S0.fS), none, none], ⟨_, rfl, _, _, _, _, rfl, rfl, SqL.of M0.ro.1, atI_nat (j := 0) (rng_at (by omega)), _, _, _, _, rfl, rfl, SqL.of p0.1, atI_nat (j := 1) rfl, _, _, _, _, rfl, rfl, SqL.of r0.1, a6, rfl, rfl⟩, ?_⟩
        rintro σ H' ⟨e0, rfl⟩
        subst e0
        refine ⟨fun σ H' => H = H' ∧ lies S0.M S0.fS ∧ σ = [some (.ref m), some (.ref ro), some (.int S0.fS), none, none], ⟨_, rfl, _, rfl, m, me, _, S0.M, S0.fS, rfl, M0.m.1, rfl, M0.me.1, _, rfl, ite3 (fun e2 => ?_) (fun e2 => ?_)⟩, ?_⟩
        · have l : ¬ lies S0.M S0.fS := by simpa using e2
          exact q2 τ H (RS.up_none f l) ⟨me, sh, ro, pr, lr, rr, M0⟩ Stp.refl
        · have l : lies S0.M S0.fS := by simpa using e2
          exact ⟨rfl, l, rfl⟩
        rintro σ H' ⟨e0, l, rfl⟩
        subst e0
        obtain ⟨l1, l2⟩ := id l
        obtain ⟨z, hz⟩ : ∃ z : Nat, S0.fS = (z : Int) := ⟨S0.fS.toNat, by omega⟩
        rw [hz]
        have hz16 : z + 16 ≤ S0.M.length := by omega
        have ec : cutV (S0.M.map V.int) (some (z : Int)) (some ((z : Int) + 16)) = ((S0.M.drop z).take 16).map V.int := by
          rw [show ((z : Int) + 16) = ((z + 16 : Nat) : Int) from rfl, cut_mid _ _ _ (by omega) (by rw [List.length_map]; omega), List.map_take, List.map_drop, show z + 16 - z = 16 by omega]
        refine ⟨fun σ H' => ∃ p, MRx (tgN τ p (7, 0, 0)) i H' m me sh ro pr lr rr S0 ∧ Stp τ (tgN τ p (7, 0, 0)) [i] H H' ∧ At (tgN τ p (7, 0, 0)) H' p (.lst (((S0.M.drop z).take 16).map V.int)) (7, 0, 0) ∧ σ = [some (.ref m), some (.ref ro), some (.int z), some (.ref p), none], ?_, ?_⟩
        · refine ⟨_, rfl, m, V.ref me, rfl, DGet.k M0.m.1 (k := .inr "memory"), _, rfl, _, rfl, _, rfl, _, _, rfl, rfl, _, rfl, me, _, rfl, SqL.of M0.me.1, fun p np => ?_⟩
          rw [ec]
          exact ⟨p, M0.new np, Stp.refl.new np, At.mk, rfl⟩
        rintro σ H1 ⟨p, M1, F1, hp, rfl⟩
        generalize tgN τ p (7, 0, 0) = τ1 at M1 F1 hp
        clear p0 r0 a6 M0 ec
        have e1 : cutV (((S0.M.drop z).take 16).map V.int) none (some 8) = ((S0.M.drop z).take 8).map V.int := by
          rw [show (8 : Int) = ((8 : Nat) : Int) from rfl, cut_hi, ← List.map_take, List.take_take]
          rfl
        have e2 : cutV (((S0.M.drop z).take 16).map V.int) (some 8) none = ((S0.M.drop (z + 8)).take 8).map V.int := by
          rw [show (8 : Int) = ((8 : Nat) : Int) from rfl, cut_lo, ← List.map_drop, List.drop_take, List.drop_drop]
        have Wro := M1.ro
        rw [show S0.A.n + 1 - S0.b = 1 by omega] at Wro
        refine ⟨fun σ H' => ∃ τ2 p2 w1 w2, Stp τ τ2 [i] H H' ∧ (∀ x : Nat × Nat × Nat, x ≠ (i, 2, 0) → ∀ {q : Addr} {o : HO}, At τ1 H1 q o x → At τ2 H' q o x) ∧ At τ2 H' ro (.lst [.ref p2, .ref (pr S0.b)]) (i, 2, 0) ∧ At τ2 H' p2 (.lst [.ref w1, .ref w2]) (i, 3, S0.b - 1) ∧ At τ2 H' w1 (.lst (((S0.M.drop z).take 8).map V.int)) (i, 5, S0.b - 1) ∧ At τ2 H' w2 (.lst (((S0.M.drop (z + 8)).take 8).map V.int)) (i, 4, S0.b - 1) ∧ ∃ x2 x3, σ = [some (.ref m), some (.ref ro), x2, x3, none], ?_, ?_⟩
        · refine ⟨_, rfl, .inl ⟨rfl, _, SqL.of M1.ro.1⟩, _, rfl, _, rfl, p, _, rfl, SqL.of hp.1, fun w1 n1 => ?_⟩
          rw [e1]
          have hp1 := hp.new n1 (u := .lst (((S0.M.drop z).take 8).map V.int)) (y := (i, 5, S0.b - 1))
          refine ⟨_, rfl, _, rfl, p, _, rfl, SqL.of hp1.1, fun w2 n2 => ?_⟩
          rw [e2]
          refine ⟨(by show 2 ≤ sizeLine; decide), fun p2 n3 => ?_⟩
          have F2 := ((F1.new n1 (o := .lst (((S0.M.drop z).take 8).map V.int)) (x := (i, 5, S0.b - 1))).new n2 (o := .lst (((S0.M.drop (z + 8)).take 8).map V.int)) (x := (i, 4, S0.b - 1))).new n3 (o := .lst [.ref w1, .ref w2]) (x := (i, 3, S0.b - 1))
          have cro := ((Wro.new n1 (u := .lst (((S0.M.drop z).take 8).map V.int)) (y := (i, 5, S0.b - 1))).new n2 (u := .lst (((S0.M.drop (z + 8)).take 8).map V.int)) (y := (i, 4, S0.b - 1))).new n3 (u := .lst [.ref w1, .ref w2]) (y := (i, 3, S0.b - 1))
          have c1 := ((At.mk (τ := τ1) (H := H1) (p := w1) (o := .lst (((S0.M.drop z).take 8).map V.int)) (x := (i, 5, S0.b - 1))).new n2 (u := .lst (((S0.M.drop (z + 8)).take 8).map V.int)) (y := (i, 4, S0.b - 1))).new n3 (u := .lst [.ref w1, .ref w2]) (y := (i, 3, S0.b - 1))
          have c2 := (At.mk (τ := tgN τ1 w1 (i, 5, S0.b - 1)) (H := upd H1 w1 (.lst (((S0.M.drop z).take 8).map V.int))) (p := w2) (o := .lst (((S0.M.drop (z + 8)).take 8).map V.int)) (x := (i, 4, S0.b - 1))).new n3 (u := .lst [.ref w1, .ref w2]) (y := (i, 3, S0.b - 1))
          refine ⟨ro, _, 0, .ref p2, rfl, rfl, cro.1, sz (by rw [rng_len]; decide), by decide, by decide, _, p2, w1, w2, F2.put (by rw [cro.2]; simp), fun x hx q o hq => (((hq.new n1).new n2).new n3).put cro.2 hx, .set cro.2, At.mk.put cro.2 (by simp), c1.put cro.2 (by simp), c2.put cro.2 (by simp), _, _, rfl⟩
        rintro σ H2 ⟨τ2, p2, w1, w2, F2, G, cro, cp, c1, c2, x2, x3, rfl⟩
        have cm := G _ (by simp) M1.m
        obtain ⟨k1, k2⟩ := o0.fill f hn0 l
        have hb1 : 1 ≤ S0.b := by omega
        refine ⟨_, rfl, m, _, "fills", S0.fi, 1, rfl, cm.1, rfl, (by show 8 ≤ 8; decide), S0.fill, τ2, upA pr (S0.b - 1) p2, upA lr (S0.b - 1) w1, upA rr (S0.b - 1) w2, _, _, ?_, F2.put (by rw [cm.2]; simp), k1, k2, RS.up_low f l, rfl⟩
        have G2 : ∀ x : Nat × Nat × Nat, x ≠ (i, 2, 0) → x ≠ (i, 0, 0) → ∀ {q : Addr} {o u : HO}, At τ1 H1 q o x → At τ2 (upd H2 m u) q o x := fun x hx h0 q o u hq => (G x hx hq).put cm.2 h0
        refine ⟨?_, G2 _ (by simp) (by simp) M1.sh, ?_, fun k h1 h2 => ?_, fun k h1 h2 => ?_, fun k h1 h2 => ?_, G2 _ (by simp) (by simp) M1.me⟩
        · show At _ _ _ (.dK (mdk S0.W me sh (upA rr (S0.b - 1) w2 (S0.A.n + 1)) ro S0.sp (S0.fi + 1) S0.A.n)) _
          rw [upA_ne (by omega)]
          exact .set cm.2
        · show At _ _ _ (.lst ((List.range (S0.A.n + 1 - (S0.b - 1))).map fun k => V.ref (upA pr (S0.b - 1) p2 (S0.b - 1 + k)))) _
          rw [show S0.A.n + 1 - (S0.b - 1) = 2 by omega]
          show At _ _ _ (.lst [V.ref (upA pr (S0.b - 1) p2 (S0.b - 1 + 0)), V.ref (upA pr (S0.b - 1) p2 (S0.b - 1 + 1))]) _
          have u1 : upA pr (S0.b - 1) p2 (S0.b - 1 + 0) = p2 := upA_same
          have u2 : upA pr (S0.b - 1) p2 (S0.b - 1 + 1) = pr S0.b := (upA_ne (by omega)).trans (congrArg pr (by omega))
          rw [u1, u2]
          exact cro.put cm.2 (by simp)
        · have h1 : S0.b - 1 ≤ k := h1
          by_cases c : k = S0.b - 1
          · subst c; rw [upA_same, upA_same, upA_same]; exact cp.put cm.2 (by simp)
          · rw [upA_ne c, upA_ne c, upA_ne c]; exact G2 _ (by simp) (by simp) (M1.pr k (by omega) h2)
        · have h1 : S0.b - 1 ≤ k := h1
          show At _ _ _ (.lst ((upF S0.A.R (S0.b - 1) _ k).map V.int)) _
          by_cases c : k = S0.b - 1
          · subst c; rw [upA_same, upF_same, hz]; exact c2.put cm.2 (by simp)
          · rw [upA_ne c, upF_ne c]; exact G2 _ (by simp) (by simp) (M1.rr k (by omega) h2)
        · have h1 : S0.b - 1 ≤ k := h1
          show At _ _ _ (.lst ((upF S0.A.L (S0.b - 1) _ k).map V.int)) _
          by_cases c : k = S0.b - 1
          · subst c; rw [upA_same, upF_same, hz]; exact c1.put cm.2 (by simp)
          · rw [upA_ne c, upF_ne c]; exact G2 _ (by simp) (by simp) (M1.lr k (by omega) h2)
      · have f : ¬ S0.b = S0.A.n := fun f => of_decide_eq_false e (by rw [rng_len, show ((S0.A.n + 1 - S0.b : Nat) : Int) = 1 by omega])
        exact ⟨S0, τ, pr, lr, rr, _, _, M0, Stp.refl, o0, by omega, RS.up_free f, rfl⟩
    clear M0
    rintro σ H1 ⟨S, τ1, pr, lr, rr, x2, x3, M, F1, o, hb, ed, rfl⟩
    have q := fun τ' H' => q1 S.up1 τ' H' ed
    obtain ⟨c, hc⟩ : ∃ c, S.A.n + 1 - S.b = c + 1 := ⟨S.A.n - S.b, by omega⟩
    have Wro := M.ro
    have hp := M.pr S.A.n (by omega) (Nat.le_refl _)
    rw [hc] at Wro
    have ern : S.b + c = S.A.n := by omega
    refine ⟨fun σ H' => H' = upd H1 ro (.lst ((List.range c).map fun k => V.ref (pr (S.b + k)))) ∧ σ = [some (.ref m), some (.ref ro), x2, x3, some (.ref (pr S.A.n))], ?_, ?_⟩
    · refine ⟨_, rfl, .inl ⟨rfl, _, SqL.of Wro.1⟩, ro, _, V.ref (pr S.A.n), rfl, rfl, Wro.1, (by rw [rng_len, ← ern]; exact rng_at (f := fun k => V.ref (pr (S.b + k))) (by omega)), ?_⟩
      rw [rng_drop]
      exact ⟨rfl, rfl⟩
    rintro σ H2 ⟨rfl, rfl⟩
    have G : ∀ x : Nat × Nat × Nat, x ≠ (i, 2, 0) → ∀ {q : Addr} {o : HO}, At τ1 H1 q o x → At τ1 (upd H1 ro (.lst ((List.range c).map fun k => V.ref (pr (S.b + k))))) q o x := fun x hx q o hq => hq.put Wro.2 hx
    have cr : At τ1 (upd H1 ro (.lst ((List.range c).map fun k => V.ref (pr (S.b + k))))) ro _ (i, 2, 0) := .set Wro.2
    have F2 := F1.put (o := .lst ((List.range c).map fun k => V.ref (pr (S.b + k)))) (by rw [Wro.2]; simp)
    have cm := G _ (by simp) M.m
    have hp2 := G _ (by simp) hp
    refine ⟨fun σ H' => H' = upd (upd H1 ro (.lst ((List.range c).map fun k => V.ref (pr (S.b + k))))) m (.dK (mdk S.W me sh (rr S.A.n) ro S.sp S.fi S.A.n)) ∧ σ = [some (.ref m), some (.ref ro), x2, x3, some (.ref (pr S.A.n))], ?_, ?_⟩
    · exact ⟨_, rfl, _, _, _, _, rfl, rfl, SqL.of hp2.1, atI_nat (j := 1) rfl, _, rfl, m, _, rfl, DPut.k cm.1 (k := .inr "outs") (sz (by show 8 ≤ 900; decide)), rfl, rfl⟩
    rintro σ H3 ⟨rfl, rfl⟩
    have cm2 : At τ1 (upd (upd H1 ro (.lst ((List.range c).map fun k => V.ref (pr (S.b + k))))) m (.dK (mdk S.W me sh (rr S.A.n) ro S.sp S.fi S.A.n))) m _ (i, 0, 0) := .set cm.2
    have F3 := F2.put (o := .dK (mdk S.W me sh (rr S.A.n) ro S.sp S.fi S.A.n)) (by rw [cm.2]; simp)
    refine ⟨_, rfl, _, rfl, m, _, "depth", S.A.n, -1, rfl, cm2.1, rfl, (by show 8 ≤ 8; decide), ?_⟩
    refine q τ1 _ ⟨me, sh, ro, pr, lr, rr, ?_⟩ (F3.put (by rw [cm.2]; simp))
    have G2 : ∀ x : Nat × Nat × Nat, x ≠ (i, 2, 0) → x ≠ (i, 0, 0) → ∀ {q : Addr} {o u : HO}, At τ1 H1 q o x → At τ1 (upd (upd (upd H1 ro (.lst ((List.range c).map fun k => V.ref (pr (S.b + k))))) m (.dK (mdk S.W me sh (rr S.A.n) ro S.sp S.fi S.A.n))) m u) q o x := fun x hx h0 q o u hq => ((G x hx hq).put cm.2 h0).put cm.2 h0
    have en : S.up1.A.n = S.A.n - 1 := rfl
    refine ⟨?_, G2 _ (by simp) (by simp) M.sh, ?_, fun k h1 h2 => ?_, fun k h1 h2 => ?_, fun k h1 h2 => ?_, G2 _ (by simp) (by simp) M.me⟩
    · rw [en, show S.A.n - 1 + 1 = S.A.n by omega, show ((S.A.n - 1 : Nat) : Int) = (S.A.n : Int) + -1 by omega]
      exact .set cm.2
    · rw [en]
      show At _ _ _ (.lst ((List.range (S.A.n - 1 + 1 - S.b)).map fun k => V.ref (pr (S.b + k)))) _
      rw [show S.A.n - 1 + 1 - S.b = c by omega]
      exact (cr.put cm.2 (by simp)).put cm.2 (by simp)
    · rw [en] at h2
      exact G2 _ (by simp) (by simp) (M.pr k h1 (by omega))
    · rw [en] at h2
      exact G2 _ (by simp) (by simp) (M.rr k h1 (by omega))
    · rw [en] at h2
      exact G2 _ (by simp) (by simp) (M.lr k h1 (by omega))
end

def spIsI : Sp := fun vs H Q _ => ∃ n : Int, vs = [.int n] ∧ Q (.bl true) H
/-- the ring and the model have the same state -/
def spWrM (C : Addr) : Sp := fun vs H Q _ => ∃ (τ : Tg) (t me m : Addr) (S : RS) (j : Nat) (y : Int), vs = [.ref t, .ref m, .int j, .int y] ∧ RG C τ 1 H t me S ∧ MR τ 2 H m S ∧ S.ok ∧ j < 32 ∧ ∀ H', RG C τ 1 H' t me (S.wr j y) → MR τ 2 H' m (S.wr j y) → Stp τ τ [1, 2] H H' → Q (.bl true) H'
section
variable {P : Program} {w : World} {K : PySem.W.Frag} {mg : Str → Option Value} {base : Heap} {a : Ad}
theorem ok_law_is_integer (T : Txt K mg a) : FnOk P w K mg base CX0 1 a.f_law_is_integer a.d_law_is_integer ["actual"] spIsI := by
  refine T.F__law_is_integer.ok sc_law_is_integer (fun vs H Q E h => ?_) (fun cdv A outer s H vs Q E hr h => ?_)
  · obtain ⟨_, rfl, _⟩ := h; rfl
  · obtain ⟨n, rfl, q⟩ := h
    refine ⟨_, (pss_one (ps_ret (pe_and (pe_callB call_isi (by rfl) T.b_isinstance (by decide +kernel) (pa_cons (pv 0) (pa_cons (pe_bltn (v := .ty "int") (by rfl) T.b_int (by decide +kernel) rfl) pa_nil))) (pe_one (pe_not (pe_callB call_isi (by rfl) T.b_isinstance (by decide +kernel) (pa_cons (pv 0) (pa_cons (pe_bltn (v := .ty "bool") (by rfl) T.b_bool (by decide +kernel) rfl) pa_nil)))))))), ?_⟩
    refine ⟨_, rfl, _, _, _, _, _, rfl, .ty _, .base (.int _), kit_ty (by decide +kernel : kitB "int" "int" = some true), _, rfl, iteT ?_⟩
    exact ⟨_, rfl, _, _, _, _, _, rfl, .ty _, .base (.int _), kit_ty (by decide +kernel : kitB "int" "bool" = some false), _, rfl, q⟩
theorem ok_law_write (T : Txt K mg a) : FnOk P w K mg base CX0 3 a.f_law_write a.d_law_write ["ring", "m", "number", "word"] (spWrM a.C_Ring) := by
  have G_law_set : FnOk P w K mg base CX0 2 _ _ _ _ := ok_law_set T
  have G_Ring_write : FnOk P w K mg base CX0 1 _ _ _ _ := ok_Ring_write T
  refine T.F__law_write.ok sc_law_write (fun vs H Q E h => ?_) (fun cdv A outer s H vs Q E hr h => ?_)
  · obtain ⟨_, _, _, _, _, _, _, rfl, _⟩ := h; rfl
  · obtain ⟨τ, t, me, m, S, j, y, rfl, R, M, o, hj, q⟩ := h
    refine ⟨_, (pss_cons (ps_expr (pe_call G_law_set (hr.mono (by decide)) rfl T.g__law_set T.k__law_set T.bd__law_set .nil pass0 (pa_cons (pv 1) (pa_cons (pv 2) (pa_cons (pv 3) pa_nil)))))
      (pss_one (ps_ret (pe_cmpR op_isN (pe_meth (pv 0) T.cl_Ring T.m_Ring_write G_Ring_write (hr.mono (by decide)) T.bd_Ring_write .nil pass0 (pa_cons (pv 2) (pa_cons (pv 3) pa_nil))) pe_non (nomark _))))), ?_⟩
    refine ⟨_, rfl, _, rfl, _, rfl, τ, 2, m, S, j, y, rfl, M, o, hj, fun H1 M1 F1 => ?_⟩
    have R1 := R.st F1 (by decide) (by decide)
    obtain ⟨dx, vw, ab, ar, W⟩ := id R1
    refine ⟨_, rfl, t, dx, _, rfl, W.ob.1, rgf_no_write _ _ _ _ _ _ _ _, _, rfl, _, rfl, τ, 1, t, me, S, j, y, rfl, by decide, R1, o, hj, fun H2 R2 F2 => ?_⟩
    have M2 := M1.st F2 (by decide)
    have q := q H2 R2 M2 ((F1.mono (by simp)).tr (F2.mono (by simp)))
    refine ⟨rfl, ?_⟩
    rw [decide_eq_true rfl]
    exact q
end

theorem neF {x y : Int} (h : x = y) : (!decide (V.int x = V.int y)) = false := by rw [h]; simp
theorem dp_ints {K : PySem.W.Frag} {H : Hp} : ∀ rs : List Int, DpAll K H (rs.map V.int) (rs.map PyData.int)
  | [] => .nil
  | x :: rs => .cons (.int x) (dp_ints rs)
theorem lay_ints : ∀ rs : List Int, PyData.canLayAll0 (rs.map PyData.int) = true
  | [] => rfl
  | x :: rs => by
    show (PyData.canLay0 (.int x) && PyData.canLayAll0 (rs.map PyData.int)) = true
    rw [lay_ints rs] <;> rfl
theorem depth_ints : ∀ rs : List Int, PyData.depthAll (rs.map PyData.int) ≤ 1
  | [] => by simp [PyData.depthAll]
  | x :: rs => by
    have := depth_ints rs
    simp only [List.map_cons, PyData.depthAll, PyData.depth]
    omega
theorem shaped_ints (rs : List Int) : SeqAt.shaped (.list (rs.map PyData.int)) = true := by
  have := depth_ints rs
  unfold SeqAt.shaped
  rw [show PyData.canLay0 (.list (rs.map PyData.int)) = true from lay_ints rs, Bool.true_and]
  refine decide_eq_true ?_
  simp only [PyData.depth]
  omega
def spAl (K : PySem.W.Frag) (C : Addr) : Sp := fun vs H Q _ => ∃ (τ : Tg) (t me m : Addr) (S : RS), vs = [.ref t, .ref m, .ref me] ∧ RG C τ 1 H t me S ∧ MR τ 2 H m S ∧ S.ok ∧ ∀ H', Same H H' → Q (.bl true) H'
section
variable {P : Program} {w : World} {K : PySem.W.Frag} {mg : Str → Option Value} {base : Heap} {a : Ad}
theorem ok_law_alike (T : Txt K mg a) : FnOk P w K mg base CX0 3 a.f_law_alike a.d_law_alike ["ring", "m", "memory"] (spAl K a.C_Ring) := by
  have G_law_get : FnOk P w K mg base CX0 2 _ _ _ _ := ok_law_get T
  have G_law_is_integer : FnOk P w K mg base CX0 1 _ _ _ _ := ok_law_is_integer T
  have G_Ring_read : FnOk P w K mg base CX0 1 _ _ _ _ := ok_Ring_read T
  have G_Ring_blocked_down : FnOk P w K mg base CX0 1 _ _ _ _ := ok_Ring_blocked_down T
  have G_Ring_blocked_up : FnOk P w K mg base CX0 1 _ _ _ _ := ok_Ring_blocked_up T
  refine T.F__law_alike.ok sc_law_alike (fun vs H Q E h => ?_) (fun cdv A outer s H vs Q E hr h => ?_)
  · obtain ⟨_, _, _, _, _, rfl, _⟩ := h; rfl
  · obtain ⟨τ, t, me, m, S, rfl, R, M, o, q⟩ := h
    refine ⟨_, (C8.pss_cut (ps_for PassesOwn.never rfl (pi_range1 rfl T.b_range (pa_cons pe_int pa_nil)) (pg_name (i := 3) sc_law_alike.nd rfl (Or.inl rfl)) (pss_cons (ps_set (i := 4) sc_law_alike.nd rfl (Or.inl rfl) (pe_meth (pv 0) T.cl_Ring T.m_Ring_read G_Ring_read (hr.mono (by decide)) T.bd_Ring_read .nil pass0 (pa_cons (pv 3) pa_nil)))
      (pss_one (ps_if (PW.pt (pw_or (pt_not (pt_val (pe_call G_law_is_integer (hr.mono (by decide)) rfl T.g__law_is_integer T.k__law_is_integer T.bd__law_is_integer .nil pass0 (pa_cons (pv 4) pa_nil)))) (pw_or1 (pt_cmpR op_ne (pv 4) (pe_call G_law_get (hr.mono (by decide)) rfl T.g__law_get T.k__law_get T.bd__law_get .nil pass0 (pa_cons (pv 1) (pa_cons (pv 3) pa_nil))) (nomark _))))) (pss_one (ps_ret pe_bl)) pss_nil))))
      (C8.pss_cut (ps_set (i := 5) sc_law_alike.nd rfl (Or.inl rfl) (pe_lst (pa_cons (pe_fld (pv 0) rfl) (pa_cons (pe_fld (pv 0) rfl) (pa_cons (pe_fld (pv 0) rfl) (pa_cons (pe_fld (pv 0) rfl) pa_nil))))))
      (C8.pss_cut (ps_for PassesOwn.never rfl (pi_list (pv 5)) (pg_name (i := 3) sc_law_alike.nd rfl (Or.inl rfl)) (pss_one (ps_if (pt_not (pt_val (pe_call G_law_is_integer (hr.mono (by decide)) rfl T.g__law_is_integer T.k__law_is_integer T.bd__law_is_integer .nil pass0 (pa_cons (pv 3) pa_nil)))) (pss_one (ps_ret pe_bl)) pss_nil)))
      (C8.pss_cut (ps_if (PW.pt (pw_or (pt_cmpR op_notBl (pe_meth0 (pv 0) T.cl_Ring T.m_Ring_blocked_down G_Ring_blocked_down (hr.mono (by decide)) T.bd_Ring_blocked_down .nil pass0) pe_bl (nomark _)) (pw_or1 (pt_cmpR op_notBl (pe_meth0 (pv 0) T.cl_Ring T.m_Ring_blocked_up G_Ring_blocked_up (hr.mono (by decide)) T.bd_Ring_blocked_up .nil pass0) pe_bl (nomark _))))) (pss_one (ps_ret pe_bl)) pss_nil)
      (pss_one (ps_ret (pe_and (pe_cmpR (op_eqD hr.units) (pv 5) (pe_lst (pa_cons (pe_callB call_len_seq (by rfl) T.b_len (by decide +kernel) (pa_cons (pe_dget (hu_of hr) (pv 1) pe_str (fun _ _ => rfl)) pa_nil)) (pa_cons (pe_dget (hu_of hr) (pv 1) pe_str (fun _ _ => rfl)) (pa_cons (pe_dget (hu_of hr) (pv 1) pe_str (fun _ _ => rfl)) (pa_cons (pe_dget (hu_of hr) (pv 1) pe_str (fun _ _ => rfl)) pa_nil))))) (nomark _)) (pe_one (pe_cmpR (op_eqD hr.units) (pv 2) (pe_dget (hu_of hr) (pv 1) pe_str (fun _ _ => rfl)) (nomark _)))))))))), ?_⟩
    refine ⟨fun σ H' => Same H H' ∧ ∃ x y, σ = [some (.ref t), some (.ref m), some (.ref me), x, y, none], ?_, ?_⟩
    · refine ⟨_, rfl, by decide, by decide, for_range (lo := 0) (n := (32 : Int).toNat) (fun _ σ H' => Same H H' ∧ ∃ x y, σ = [some (.ref t), some (.ref m), some (.ref me), x, y, none]) ⟨Same.refl H, none, none, rfl⟩ ?_ (fun σ H' h => h)⟩
      rintro k σ H1 hk ⟨s1, x, y, rfl⟩
      have e0 : (0 : Int) + (k : Int) = (k : Int) := Int.zero_add _
      rw [e0]
      have R1 := R.st (Stp.same (τ := τ) (S := []) s1) (by simp) (by simp)
      have M1 := M.st (Stp.same (τ := τ) (S := []) s1) (by simp)
      obtain ⟨dx, vw, ab, ar, W⟩ := id R1
      refine ⟨_, rfl, t, dx, _, rfl, W.ob.1, rgf_no_read _ _ _ _ _ _ _ _, _, rfl, τ, 1, t, me, S, k, rfl, R1, o, hk, ?_⟩
      refine ⟨_, rfl, _, rfl, _, rfl, iteF ⟨_, rfl, _, rfl, _, rfl, τ, 2, m, S, k, rfl, M1, o, hk, fun H2 s2 => ⟨rfl, _, rfl, ?_⟩⟩⟩
      rw [neF rfl]
      exact iteF ⟨s1.trans s2, _, _, rfl⟩
    rintro σ H1 ⟨s1, x, y, rfl⟩
    have R1 := R.st (Stp.same (τ := τ) (S := []) s1) (by simp) (by simp)
    have M1 := M.st (Stp.same (τ := τ) (S := []) s1) (by simp)
    obtain ⟨dx, vw, ab, ar, W⟩ := R1
    obtain ⟨me2, sh, ro, pr, lr, rr, N⟩ := M1
    refine ⟨fun σ H' => ∃ p, Same H1 H' ∧ H' p = some (.lst (([(S.A.n : Int) + 1 - (S.b : Int), S.sp, S.fi, (S.A.n : Int)] : List Int).map V.int)) ∧ σ = [some (.ref t), some (.ref m), some (.ref me), x, y, some (.ref p)], ?_, ?_⟩
    · exact ⟨_, rfl, t, a.C_Ring, dx, _, _, rfl, W.ob.1, T.cl_Ring, T.n_Ring_resident, rgf_resident _ _ _ _ _ _ _ _, _, rfl, t, a.C_Ring, dx, _, _, rfl, W.ob.1, T.cl_Ring, T.n_Ring_spills, rgf_spills _ _ _ _ _ _ _ _, _, rfl, t, a.C_Ring, dx, _, _, rfl, W.ob.1, T.cl_Ring, T.n_Ring_fills, rgf_fills _ _ _ _ _ _ _ _, _, rfl, t, a.C_Ring, dx, _, _, rfl, W.ob.1, T.cl_Ring, T.n_Ring_depth, rgf_depth _ _ _ _ _ _ _ _, (by show 4 ≤ sizeLine; decide), fun p np => ⟨p, sN (Same.refl _) np, upd_same, rfl⟩⟩
    rintro σ H2 ⟨p, s2, hp, rfl⟩
    have hob := s2 _ _ W.ob.1
    have hm := s2 _ _ N.m.1
    have hro := s2 _ _ N.ro.1
    have hme := s2 _ _ W.me.1
    have hme2 := s2 _ _ N.me.1
    refine ⟨fun σ H' => H2 = H' ∧ ∃ z, σ = [some (.ref t), some (.ref m), some (.ref me), z, y, some (.ref p)], ?_, ?_⟩
    · refine ⟨_, rfl, _, rfl, ⟨_, SqL.of hp⟩, for_list (K := K) (a := p) (xs := ([(S.A.n : Int) + 1 - (S.b : Int), S.sp, S.fi, (S.A.n : Int)] : List Int).map V.int) (fun _ σ H' => H2 = H' ∧ ∃ z, σ = [some (.ref t), some (.ref m), some (.ref me), z, y, some (.ref p)]) ⟨rfl, _, rfl⟩ (fun _ _ _ _ ⟨e, _⟩ => by rw [← e]; exact SqL.of hp) ?_ (fun σ H' h => h)⟩
      rintro k v σ H' hv ⟨rfl, z, rfl⟩
      obtain ⟨c, rfl⟩ : ∃ c, v = V.int c := by
        rw [List.getElem?_map] at hv
        cases e : ([(S.A.n : Int) + 1 - (S.b : Int), S.sp, S.fi, (S.A.n : Int)] : List Int)[k]? with
        | none => rw [e] at hv; cases hv
        | some c => rw [e] at hv; exact ⟨c, (Option.some.inj hv).symm⟩
      exact ⟨_, rfl, c, rfl, _, rfl, iteF ⟨rfl, _, rfl⟩⟩
    rintro σ H' ⟨e0, z, rfl⟩
    subst e0
    refine ⟨fun σ H' => H2 = H' ∧ σ = [some (.ref t), some (.ref m), some (.ref me), z, y, some (.ref p)], ?_, ?_⟩
    · refine ⟨_, rfl, t, dx, _, rfl, hob, rgf_no_blocked_down _ _ _ _ _ _ _ _, _, rfl, _, _, rfl, rfl, _, rfl, iteF ?_⟩
      exact ⟨_, rfl, t, dx, _, rfl, hob, rgf_no_blocked_up _ _ _ _ _ _ _ _, _, rfl, _, _, rfl, rfl, _, rfl, iteF ⟨rfl, rfl⟩⟩
    rintro σ H' ⟨e0, rfl⟩
    subst e0
    have hb := o.b
    have el : (((List.range (S.A.n + 1 - S.b)).map fun k => V.ref (pr (S.b + k))).length : Int) = (S.A.n : Int) + 1 - (S.b : Int) := by rw [rng_len]; omega
    refine ⟨_, rfl, _, rfl, m, V.ref ro, rfl, DGet.k hm (k := .inr "rows"), _, _, rfl, .inl (SqL.of hro), _, rfl, m, V.int S.sp, rfl, DGet.k hm (k := .inr "spills"), _, rfl, m, V.int S.fi, rfl, DGet.k hm (k := .inr "fills"), _, rfl, m, V.int S.A.n, rfl, DGet.k hm (k := .inr "depth"), (by show 4 ≤ sizeLine; decide), fun p2 n2 => ?_⟩
    rw [el]
    have s3 := sN (Same.refl H2) n2 (o := .lst (([(S.A.n : Int) + 1 - (S.b : Int), S.sp, S.fi, (S.A.n : Int)] : List Int).map V.int))
    have hp2 : upd H2 p2 (.lst (([(S.A.n : Int) + 1 - (S.b : Int), S.sp, S.fi, (S.A.n : Int)] : List Int).map V.int)) p2 = some (.lst (([(S.A.n : Int) + 1 - (S.b : Int), S.sp, S.fi, (S.A.n : Int)] : List Int).map V.int)) := upd_same
    refine ⟨_, _, .lst (SqL.of (s3 _ _ hp)) (dp_ints _), .lst (SqL.of hp2) (dp_ints _), shaped_ints _, shaped_ints _, true, congrArg V.bl (SeqAt.eqv_refl _ (lay_ints _)), iteT ?_⟩
    refine ⟨_, rfl, _, rfl, m, V.ref me2, rfl, DGet.k (s3 _ _ hm) (k := .inr "memory"), _, _, .lst (SqL.of (s3 _ _ hme)) (dp_ints _), .lst (SqL.of (s3 _ _ hme2)) (dp_ints _), shaped_ints _, shaped_ints _, ?_⟩
    have q' := q _ ((s1.trans s2).trans s3)
    rw [← SeqAt.eqv_refl (.list (S.M.map PyData.int)) (lay_ints _)] at q'
    exact q'
end

theorem RS.down_inv {S : RS} (h : S.down = none) : S.full ∧ ¬ lies S.M S.sS := by
  unfold RS.down at h
  by_cases f : S.full
  · rw [if_pos f] at h
    by_cases l : lies S.M S.sS
    · rw [if_pos l] at h; cases h
    · exact ⟨f, l⟩
  · rw [if_neg f] at h; cases h
theorem RS.up_inv {S : RS} (h : S.up = none) : S.b = S.A.n ∧ ¬ lies S.M S.fS := by
  unfold RS.up at h
  by_cases f : S.b = S.A.n
  · rw [if_pos f] at h
    by_cases l : lies S.M S.fS
    · rw [if_pos l] at h; cases h
    · exact ⟨f, l⟩
  · rw [if_neg f] at h; cases h
def spRDH : Sp := fun vs H Q _ => ∃ (τ : Tg) (i : Nat) (m : Addr) (S : RS), vs = [.ref m] ∧ MR τ i H m S ∧ S.ok ∧ S.down = none ∧ Q (.bl false) H
def spRUH : Sp := fun vs H Q _ => ∃ (τ : Tg) (i : Nat) (m : Addr) (S : RS), vs = [.ref m] ∧ MR τ i H m S ∧ S.ok ∧ S.up = none ∧ Q (.bl false) H
/-- both go on, or both stay -/
def spGoD (C : Addr) : Sp := fun vs H Q _ => ∃ (τ : Tg) (t me m : Addr) (S : RS), vs = [.ref t, .ref m] ∧ RG C τ 1 H t me S ∧ MR τ 2 H m S ∧ S.ok ∧ S.A.n ≤ 199 ∧ ∀ S' τ' H', S.down = some S' ∨ (S' = S) → RG C τ' 1 H' t me S' → MR τ' 2 H' m S' → Stp τ τ' [1, 2, 8] H H' → Q (.bl true) H'
def spGoU (C : Addr) : Sp := fun vs H Q _ => ∃ (τ : Tg) (t me m : Addr) (S : RS), vs = [.ref t, .ref m] ∧ RG C τ 1 H t me S ∧ MR τ 2 H m S ∧ S.ok ∧ 0 < S.A.n ∧ ∀ S' τ' H', S.up = some S' ∨ (S' = S) → RG C τ' 1 H' t me S' → MR τ' 2 H' m S' → Stp τ τ' [1, 2, 8] H H' → Q (.bl true) H'
section
variable {P : Program} {w : World} {K : PySem.W.Frag} {mg : Str → Option Value} {base : Heap} {a : Ad}
theorem okH_law_lies (T : Txt K mg a) : L2H.FnH P w K mg base CX0 1 a.f_law_lies a.d_law_lies ["m", "start"] spLiesM := by
  refine T.F__law_lies.okH sc_law_lies (fun vs H Q E h => ?_) (fun cdv A outer s H vs Q E p hot hr h => ?_)
  · obtain ⟨_, _, _, _, _, rfl, _⟩ := h; rfl
  · obtain ⟨m, me, kvs, M, x, rfl, hm, hk, hme, q⟩ := h
    refine ⟨_, (pss_one (ps_ret (pe_and (pe_cmpR op_ge (pv 1) pe_int (nomark _)) (pe_one (pe_cmpR op_le (pe_op op_add (pv 1) pe_int) (pe_callB call_len_seq (by rfl) T.b_len (by decide +kernel) (pa_cons (pe_dget (huH hr) (pv 0) pe_str (fun _ _ => rfl)) pa_nil)) (nomark _)))))), ?_⟩
    have g := DGet.k hm (k := .inr "memory")
    rw [hk] at g
    refine ⟨_, rfl, _, _, rfl, rfl, _, rfl, ite3 (fun e => ?_) (fun e => ?_)⟩
    · have e := of_decide_eq_true e
      refine ⟨_, rfl, _, _, rfl, rfl, _, rfl, m, _, rfl, g, me, _, rfl, .inl (SqL.of hme), _, _, rfl, rfl, ?_⟩
      have c : decide (lies M x) = decide (x + 16 ≤ ((M.map V.int).length : Int)) := by
        rw [List.length_map]
        by_cases c : x + 16 ≤ (M.length : Int)
        · rw [decide_eq_true c, decide_eq_true (show lies M x from ⟨e, c⟩)]
        · rw [decide_eq_false c, decide_eq_false (fun z : lies M x => c z.2)]
      rw [c] at q
      exact q
    · have e := of_decide_eq_false e
      rw [decide_eq_false (fun z : lies M x => e z.1)] at q
      exact q
theorem okH_law_ring_down (T : Txt K mg a) : L2H.FnH P w K mg base CX0 2 a.f_law_ring_down a.d_law_ring_down ["m"] spRDH := by
  have GH_law_lies : L2H.FnH P w K mg base CX0 1 _ _ _ _ := okH_law_lies T
  refine T.F__law_ring_down.okH sc_law_ring_down (fun vs H Q E h => ?_) (fun cdv A outer s H vs Q E p hot hr h => ?_)
  · obtain ⟨_, _, _, _, rfl, _⟩ := h; rfl
  · obtain ⟨τ, i, m, S0, rfl, ⟨me, sh, ro, pr, lr, rr, M0⟩, o0, ed, q⟩ := h
    refine ⟨_, (pss_cons (ps_set (i := 1) sc_law_ring_down.nd rfl (Or.inl rfl) (pe_dget (huH hr) (pv 0) pe_str (fun _ _ => rfl)))
      (pss_cons (ps_set (i := 2) sc_law_ring_down.nd rfl (Or.inl rfl) (pe_dget (huH hr) (pv 0) pe_str (fun _ _ => rfl)))
      (pss_cons (ps_if (pt_cmpR op_eq (pe_callB call_len_seq (by rfl) T.b_len (by decide +kernel) (pa_cons (pv 1) pa_nil)) (pe_op op_sub (pe_dget (huH hr) (pv 0) pe_str (fun _ _ => rfl)) pe_int) (nomark _)) (pss_cons (ps_set (i := 3) sc_law_ring_down.nd rfl (Or.inl rfl) (pe_ix ix_list (pe_ix ix_list (pe_ix ix_list (pv 1) pe_int (fun _ _ => rfl)) pe_int (fun _ _ => rfl)) pe_int (fun _ _ => rfl)))
      (pss_cons (ps_if (pt_not (pt_val (L2H.pe_callH GH_law_lies (hr.mono (by decide)) ⟨p, hot, List.mem_singleton.mpr rfl⟩ rfl T.g__law_lies T.k__law_lies T.bd__law_lies (passA0 (E := fun _ _ _ _ => False)) (pa_cons (pv 0) (pa_cons (pv 3) pa_nil))))) (pss_one (ps_ret pe_bl)) pss_nil)
      pss_never)) pss_nil)
      pss_never))), ?_⟩
    obtain ⟨f, l⟩ := RS.down_inv ed
    have f' : S0.A.n + 2 = S0.b + S0.W := f
    have hb0 := o0.b
    have hw0 := o0.w3
    have p1 := M0.pr (S0.b + 1) (by omega) (by omega)
    have r1 := M0.rr (S0.b + 1) (by omega) (by omega)
    refine ⟨_, rfl, m, _, rfl, DGet.k M0.m.1 (k := .inr "rows"), _, rfl, m, _, rfl, DGet.k M0.m.1 (k := .inr "memory"), ?_⟩
    refine ⟨_, rfl, _, _, rfl, .inl (SqL.of M0.ro.1), _, rfl, m, _, rfl, DGet.k M0.m.1 (k := .inr "windows"), _, _, rfl, rfl, rfl, _, rfl, ite3 (fun e => ?_) (fun e => ?_)⟩
    · refine ⟨_, rfl, _, _, _, _, rfl, rfl, SqL.of M0.ro.1, atI_nat (j := 1) (rng_at (by omega)), _, _, _, _, rfl, rfl, SqL.of p1.1, atI_nat (j := 1) rfl, _, _, _, _, rfl, rfl, SqL.of r1.1, atI_nat (j := 6) (at_map (by rw [o0.a.r]; decide)), ?_⟩
      refine ⟨_, rfl, _, rfl, m, me, _, S0.M, S0.sS, rfl, M0.m.1, rfl, M0.me.1, _, rfl, ?_⟩
      rw [decide_eq_false l]
      exact iteT q
    · exfalso
      refine of_decide_eq_false e ?_
      rw [rng_len, show ((S0.A.n + 1 - S0.b : Nat) : Int) = (S0.W : Int) - 1 by omega]
theorem okH_law_ring_up (T : Txt K mg a) : L2H.FnH P w K mg base CX0 2 a.f_law_ring_up a.d_law_ring_up ["m"] spRUH := by
  have GH_law_lies : L2H.FnH P w K mg base CX0 1 _ _ _ _ := okH_law_lies T
  refine T.F__law_ring_up.okH sc_law_ring_up (fun vs H Q E h => ?_) (fun cdv A outer s H vs Q E p hot hr h => ?_)
  · obtain ⟨_, _, _, _, rfl, _⟩ := h; rfl
  · obtain ⟨τ, i, m, S0, rfl, ⟨me, sh, ro, pr, lr, rr, M0⟩, o0, ed, q⟩ := h
    refine ⟨_, (pss_cons (ps_set (i := 1) sc_law_ring_up.nd rfl (Or.inl rfl) (pe_dget (huH hr) (pv 0) pe_str (fun _ _ => rfl)))
      (pss_cons (ps_if (pt_cmpR op_eq (pe_callB call_len_seq (by rfl) T.b_len (by decide +kernel) (pa_cons (pv 1) pa_nil)) pe_int (nomark _)) (pss_cons (ps_set (i := 2) sc_law_ring_up.nd rfl (Or.inl rfl) (pe_ix ix_list (pe_ix ix_list (pe_ix ix_list (pv 1) pe_int (fun _ _ => rfl)) pe_int (fun _ _ => rfl)) pe_int (fun _ _ => rfl)))
      (pss_cons (ps_if (pt_not (pt_val (L2H.pe_callH GH_law_lies (hr.mono (by decide)) ⟨p, hot, List.mem_singleton.mpr rfl⟩ rfl T.g__law_lies T.k__law_lies T.bd__law_lies (passA0 (E := fun _ _ _ _ => False)) (pa_cons (pv 0) (pa_cons (pv 2) pa_nil))))) (pss_one (ps_ret pe_bl)) pss_nil)
      pss_never)) pss_nil)
      pss_never)), ?_⟩
    obtain ⟨f, l⟩ := RS.up_inv ed
    have p0 := M0.pr S0.b (Nat.le_refl _) (by omega)
    have r0 := M0.rr S0.b (Nat.le_refl _) (by omega)
    have a6 : atI ((S0.A.R S0.b).map V.int) 6 = some (.int S0.fS) := by
      unfold RS.fS
      rw [← f]
      exact atI_nat (j := 6) (at_map (by rw [o0.a.r]; decide))
    refine ⟨_, rfl, m, _, rfl, DGet.k M0.m.1 (k := .inr "rows"), ?_⟩
    refine ⟨_, rfl, _, _, rfl, .inl (SqL.of M0.ro.1), rfl, _, rfl, ite3 (fun e => ?_) (fun e => ?_)⟩
    · refine ⟨_, rfl, _, _, _, _, rfl, rfl, SqL.of M0.ro.1, atI_nat (j := 0) (rng_at (by omega)), _, _, _, _, rfl, rfl, SqL.of p0.1, atI_nat (j := 1) rfl, _, _, _, _, rfl, rfl, SqL.of r0.1, a6, ?_⟩
      refine ⟨_, rfl, _, rfl, m, me, _, S0.M, S0.fS, rfl, M0.m.1, rfl, M0.me.1, _, rfl, ?_⟩
      rw [decide_eq_false l]
      exact iteT q
    · exfalso
      refine of_decide_eq_false e ?_
      rw [rng_len, show ((S0.A.n + 1 - S0.b : Nat) : Int) = 1 by omega]
end

section
variable {P : Program} {w : World} {K : PySem.W.Frag} {mg : Str → Option Value} {base : Heap} {a : Ad}
theorem ok_law_goes_down (T : Txt K mg a) : FnOk P w K mg base CX0 4 a.f_law_goes_down a.d_law_goes_down ["ring", "m"] (spGoD a.C_Ring) := by
  have G_law_ring_down : FnOk P w K mg base CX0 2 _ _ _ _ := ok_law_ring_down T
  have GH_law_ring_down : L2H.FnH P w K mg base CX0 2 _ _ _ _ := okH_law_ring_down T
  have G_Ring_shift_down : FnOk P w K mg base (L2N.CX P w) 3 _ _ _ _ := ok_Ring_shift_down T
  refine T.F__law_goes_down.ok sc_law_goes_down (fun vs H Q E h => ?_) (fun cdv A outer s H vs Q E hr h => ?_)
  · obtain ⟨_, _, _, _, _, rfl, _⟩ := h; rfl
  · obtain ⟨τ, t, me, m, S, rfl, R, M, o, hn, q⟩ := h
    refine ⟨_, (pss_cons (L2N.ps_try_as (i := 3) rfl rfl sc_law_goes_down.nd rfl rfl ⟨rfl, by decide, Or.inl T.g_Fault⟩ takes0N (fun W pn xe tk _ => (pss_one (ps_set (i := 2) sc_law_goes_down.nd rfl (Or.inl rfl) (pe_methE0 (pv 0) T.cl_Ring T.m_Ring_shift_down G_Ring_shift_down (hr.mono (by decide)) T.bd_Ring_shift_down (fun σ => L2N.passAt tk σ))))) (fun av oe cls dd pn hz hf => (pss_one (ps_ret (pe_and (pe_callB (call_isEx hz.zc hf) (by rfl) T.b_isinstance (by decide +kernel) (pa_cons (pv 3) (pa_cons (pe_glob (v := .ref a.C_AdaError) rfl T.g_AdaError rfl) pa_nil))) (pe_one (pe_not (L2H.pe_callH GH_law_ring_down (roomS hr (by decide)) (hotS hz hf) rfl T.g__law_ring_down T.k__law_ring_down T.bd__law_ring_down (passA0 (E := fun _ _ _ _ => False)) (pa_cons (pv 1) pa_nil)))))))))
      (pss_one (ps_ret (pe_and (pe_cmpR op_isN (pv 2) pe_non (nomark _)) (pe_one (pe_call G_law_ring_down (hr.mono (by decide)) rfl T.g__law_ring_down T.k__law_ring_down T.bd__law_ring_down .nil pass0 (pa_cons (pv 1) pa_nil))))))), ?_⟩
    obtain ⟨dx, vw, ab, ar, W⟩ := id R
    refine ⟨_, rfl, t, dx, _, rfl, W.ob.1, rgf_no_shift_down _ _ _ _ _ _ _ _, τ, 1, t, me, S, rfl, by decide, R, o, hn, fun S' τ1 H1 ed R1 F1 => ?_, fun τ1 H1 ed R1 F1 => ?_⟩
    · have M1 := M.st F1 (by decide)
      refine ⟨_, rfl, rfl, _, rfl, iteT ?_⟩
      refine ⟨_, rfl, τ1, 2, m, S, rfl, by decide, M1, o, hn, fun S2 τ2 H2 ed2 M2 F2 => ?_, fun τ2 H2 ed2 M2 F2 => ?_⟩
      · rw [ed] at ed2
        obtain rfl := Option.some.inj ed2
        exact q S' τ2 H2 (.inl ed) (R1.st F2 (by decide) (by decide)) M2 ((F1.mono (by simp)).tr (F2.mono (by simp)))
      · rw [ed] at ed2; cases ed2
    · have M1 := M.st F1 (by decide)
      refine ⟨true, T.e_Fault_Fault, fun _ av na => ?_, fun z => nomatch z⟩
      refine ⟨_, rfl, _, rfl, rfl, T.ec_Fault, _, _, _, rfl, fun u hu => hu, T.i_Fault_AdaError, _, rfl, iteT ?_⟩
      refine ⟨_, rfl, τ1, 2, m, S, rfl, M1, o, ed, _, rfl, ?_⟩
      exact q S τ1 H1 (.inr rfl) R1 M1 (F1.mono (by simp))
theorem ok_law_goes_up (T : Txt K mg a) : FnOk P w K mg base CX0 4 a.f_law_goes_up a.d_law_goes_up ["ring", "m"] (spGoU a.C_Ring) := by
  have G_law_ring_up : FnOk P w K mg base CX0 2 _ _ _ _ := ok_law_ring_up T
  have GH_law_ring_up : L2H.FnH P w K mg base CX0 2 _ _ _ _ := okH_law_ring_up T
  have G_Ring_shift_up : FnOk P w K mg base (L2N.CX P w) 3 _ _ _ _ := ok_Ring_shift_up T
  refine T.F__law_goes_up.ok sc_law_goes_up (fun vs H Q E h => ?_) (fun cdv A outer s H vs Q E hr h => ?_)
  · obtain ⟨_, _, _, _, _, rfl, _⟩ := h; rfl
  · obtain ⟨τ, t, me, m, S, rfl, R, M, o, hn, q⟩ := h
    refine ⟨_, (pss_cons (L2N.ps_try_as (i := 3) rfl rfl sc_law_goes_up.nd rfl rfl ⟨rfl, by decide, Or.inl T.g_Fault⟩ takes0N (fun W pn xe tk _ => (pss_one (ps_set (i := 2) sc_law_goes_up.nd rfl (Or.inl rfl) (pe_methE0 (pv 0) T.cl_Ring T.m_Ring_shift_up G_Ring_shift_up (hr.mono (by decide)) T.bd_Ring_shift_up (fun σ => L2N.passAt tk σ))))) (fun av oe cls dd pn hz hf => (pss_one (ps_ret (pe_and (pe_callB (call_isEx hz.zc hf) (by rfl) T.b_isinstance (by decide +kernel) (pa_cons (pv 3) (pa_cons (pe_glob (v := .ref a.C_AdaError) rfl T.g_AdaError rfl) pa_nil))) (pe_one (pe_not (L2H.pe_callH GH_law_ring_up (roomS hr (by decide)) (hotS hz hf) rfl T.g__law_ring_up T.k__law_ring_up T.bd__law_ring_up (passA0 (E := fun _ _ _ _ => False)) (pa_cons (pv 1) pa_nil)))))))))
      (pss_one (ps_ret (pe_and (pe_cmpR op_isN (pv 2) pe_non (nomark _)) (pe_one (pe_call G_law_ring_up (hr.mono (by decide)) rfl T.g__law_ring_up T.k__law_ring_up T.bd__law_ring_up .nil pass0 (pa_cons (pv 1) pa_nil))))))), ?_⟩
    obtain ⟨dx, vw, ab, ar, W⟩ := id R
    refine ⟨_, rfl, t, dx, _, rfl, W.ob.1, rgf_no_shift_up _ _ _ _ _ _ _ _, τ, 1, t, me, S, rfl, by decide, R, o, hn, fun S' τ1 H1 ed R1 F1 => ?_, fun τ1 H1 ed R1 F1 => ?_⟩
    · have M1 := M.st F1 (by decide)
      refine ⟨_, rfl, rfl, _, rfl, iteT ?_⟩
      refine ⟨_, rfl, τ1, 2, m, S, rfl, by decide, M1, o, hn, fun S2 τ2 H2 ed2 M2 F2 => ?_, fun τ2 H2 ed2 M2 F2 => ?_⟩
      · rw [ed] at ed2
        obtain rfl := Option.some.inj ed2
        exact q S' τ2 H2 (.inl ed) (R1.st F2 (by decide) (by decide)) M2 ((F1.mono (by simp)).tr (F2.mono (by simp)))
      · rw [ed] at ed2; cases ed2
    · have M1 := M.st F1 (by decide)
      refine ⟨true, T.e_Fault_Fault, fun _ av na => ?_, fun z => nomatch z⟩
      refine ⟨_, rfl, _, rfl, rfl, T.ec_Fault, _, _, _, rfl, fun u hu => hu, T.i_Fault_AdaError, _, rfl, iteT ?_⟩
      refine ⟨_, rfl, τ1, 2, m, S, rfl, M1, o, ed, _, rfl, ?_⟩
      exact q S τ1 H1 (.inr rfl) R1 M1 (F1.mono (by simp))
end

theorem RS.ok.goD {S S' : RS} (h : S.ok) (n : S.A.n ≤ 199) (e : S.down = some S' ∨ S' = S) : S'.ok ∧ S'.A.n ≤ S.A.n + 1 ∧ S'.M.length = S.M.length := by
  rcases e with e | rfl
  · unfold RS.down at e
    by_cases f : S.full
    · rw [if_pos f] at e
      by_cases l : lies S.M S.sS
      · rw [if_pos l] at e
        obtain rfl := Option.some.inj e
        obtain ⟨o, f2, em⟩ := h.spill f l
        exact ⟨o.dn f2 n, Nat.le_refl _, em⟩
      · rw [if_neg l] at e; cases e
    · rw [if_neg f] at e
      obtain rfl := Option.some.inj e
      exact ⟨h.dn f n, Nat.le_refl _, rfl⟩
  · exact ⟨h, Nat.le_succ _, rfl⟩
theorem RS.ok.goU {S S' : RS} (h : S.ok) (n : 0 < S.A.n) (e : S.up = some S' ∨ S' = S) : S'.ok ∧ S'.A.n ≤ S.A.n ∧ S'.M.length = S.M.length := by
  have hb := h.b
  rcases e with e | rfl
  · unfold RS.up at e
    by_cases f : S.b = S.A.n
    · rw [if_pos f] at e
      by_cases l : lies S.M S.fS
      · rw [if_pos l] at e
        obtain rfl := Option.some.inj e
        obtain ⟨o, f2⟩ := h.fill f n l
        exact ⟨o.up1 f2, Nat.sub_le _ _, rfl⟩
      · rw [if_neg l] at e; cases e
    · rw [if_neg f] at e
      obtain rfl := Option.some.inj e
      exact ⟨h.up1 (by omega), Nat.sub_le _ _, rfl⟩
  · exact ⟨h, Nat.le_refl _, rfl⟩
structure J7 (C : Addr) (τ : Tg) (H : Hp) (st ca : Addr) (ns : List Int) (t me m : Addr) (S : RS) : Prop where
  s : StDG τ H st ca ns
  R : RG C τ 1 H t me S
  M : MR τ 2 H m S
  o : S.ok
  l : 48 ≤ S.M.length
namespace J7
variable {C : Addr} {τ τ' : Tg} {H H' : Hp} {st ca t me m : Addr} {ns : List Int} {S S' : RS}
theorem same (h : J7 C τ H st ca ns t me m S) (s : Same H H') : J7 C τ H' st ca ns t me m S :=
  ⟨h.s.step (Stp.same (S := []) s) (by simp), h.R.st (Stp.same (S := []) s) (by simp) (by simp), h.M.st (Stp.same (S := []) s) (by simp), h.o, h.l⟩
theorem step (h : J7 C τ H st ca ns t me m S) (S' : Stp τ τ' [4] H H') (st' : StDG τ' H' st ca ns) : J7 C τ' H' st ca ns t me m S :=
  ⟨st', h.R.st S' (by simp) (by simp), h.M.st S' (by simp), h.o, h.l⟩
theorem new (h : J7 C τ H st ca ns t me m S) {p : Addr} {o : HO} (n : H p = none) : J7 C (tgN τ p (7, 0, 0)) (upd H p o) st ca ns t me m S :=
  have F := (Stp.refl (τ := τ) (S := []) (H := H)).new n (o := o) (x := (7, 0, 0))
  ⟨h.s.step F (by simp), h.R.st F (by simp) (by simp), h.M.st F (by simp), h.o, h.l⟩
theorem len (h : J7 C τ H st ca ns t me m S) : ∃ o, H me = some (.lst (S.M.map V.int)) ∧ o = S.M.length ∧ o ≤ 900 := by
  obtain ⟨dx, vw, ab, ar, W⟩ := h.R
  exact ⟨_, W.me.1, rfl, h.o.m⟩
theorem go (h : J7 C τ H st ca ns t me m S) (F : Stp τ τ' [1, 2, 8] H H') (R' : RG C τ' 1 H' t me S') (M' : MR τ' 2 H' m S') (o : S'.ok) (l : S'.M.length = S.M.length) : J7 C τ' H' st ca ns t me m S' :=
  ⟨h.s.step F (by simp), R', M', o, by rw [l]; exact h.l⟩
theorem wr (h : J7 C τ H st ca ns t me m S) {j : Nat} {y : Int} (F : Stp τ τ' [1, 2] H H') (R' : RG C τ' 1 H' t me (S.wr j y)) (M' : MR τ' 2 H' m (S.wr j y)) : J7 C τ' H' st ca ns t me m (S.wr j y) :=
  ⟨h.s.step F (by simp), R', M', h.o.wr j y, h.l⟩
end J7
theorem wr_n {S : RS} (j : Nat) (y : Int) : (S.wr j y).A.n = S.A.n := Ab.wr_n j y
def spDeed (C : Addr) : Sp := fun vs H Q _ => ∃ (τ : Tg) (st ca : Addr) (ns : List Int) (t me m : Addr) (S : RS), vs = [.ref st, .ref t, .ref m, .ref me] ∧ J7 C τ H st ca ns t me m S ∧ S.A.n ≤ 199 ∧ ∀ τ' H' S', J7 C τ' H' st ca ns t me m S' → S'.A.n ≤ S.A.n + 1 → Q (.bl true) H'
section
variable {P : Program} {w : World} {K : PySem.W.Frag} {mg : Str → Option Value} {base : Heap} {a : Ad}
theorem ok_law_deed (T : Txt K mg a) : FnOk P w K mg base CX0 5 a.f_law_deed a.d_law_deed ["state", "ring", "m", "memory"] (spDeed a.C_Ring) := by
  have G_law_draw : FnOk P w K mg base CX0 3 _ _ _ _ := ok_drawG T
  have G_law_word : FnOk P w K mg base CX0 4 _ _ _ _ := ok_law_word T
  have G_law_is_integer : FnOk P w K mg base CX0 1 _ _ _ _ := ok_law_is_integer T
  have G_law_get : FnOk P w K mg base CX0 2 _ _ _ _ := ok_law_get T
  have G_law_write : FnOk P w K mg base CX0 3 _ _ _ _ := ok_law_write T
  have G_law_alike : FnOk P w K mg base CX0 3 _ _ _ _ := ok_law_alike T
  have G_law_goes_down : FnOk P w K mg base CX0 4 _ _ _ _ := ok_law_goes_down T
  have G_law_goes_up : FnOk P w K mg base CX0 4 _ _ _ _ := ok_law_goes_up T
  have G_Ring_read : FnOk P w K mg base CX0 1 _ _ _ _ := ok_Ring_read T
  refine T.F__law_deed.ok sc_law_deed (fun vs H Q E h => ?_) (fun cdv A outer s H vs Q E hr h => ?_)
  · obtain ⟨_, _, _, _, _, _, _, _, rfl, _⟩ := h; rfl
  · obtain ⟨τ, st, ca, ns, t, me, m, S, rfl, J0, hn, q⟩ := h
    refine ⟨_, (pss_cons (ps_set (i := 4) sc_law_deed.nd rfl (Or.inl rfl) (pe_call G_law_draw (hr.mono (by decide)) rfl T.g__law_draw T.k__law_draw T.bd__law_draw .nil pass0 (pa_cons (pv 0) (pa_cons pe_int pa_nil))))
      (pss_cons (ps_if (pt_cmpR op_lt (pv 4) pe_int (nomark _)) (C8.pss_cut (ps_set (i := 5) sc_law_deed.nd rfl (Or.inl rfl) (pe_call G_law_get (hr.mono (by decide)) rfl T.g__law_get T.k__law_get T.bd__law_get .nil pass0 (pa_cons (pv 2) (pa_cons pe_int pa_nil))))
      (C8.pss_cut (ps_set (i := 6) sc_law_deed.nd rfl (Or.inl rfl) (pe_dget (hu_of hr) (pv 2) pe_str (fun _ _ => rfl)))
      (C8.pss_cut (ps_if (pt_not (pt_val (pe_call G_law_goes_down (hr.mono (by decide)) rfl T.g__law_goes_down T.k__law_goes_down T.bd__law_goes_down .nil pass0 (pa_cons (pv 1) (pa_cons (pv 2) pa_nil))))) (pss_one (ps_ret pe_bl)) pss_nil)
      (C8.pss_cut (ps_set (i := 7) sc_law_deed.nd rfl (Or.inl rfl) (pe_callB (cr_max rfl) (by rfl) T.b_max (by decide +kernel) (pa_cons (pe_lst (pa_cons (pe_un un_neg pe_int) (pa_cons (pe_op op_sub (pe_op op_sub (pv 5) pe_int) (pe_call G_law_draw (hr.mono (by decide)) rfl T.g__law_draw T.k__law_draw T.bd__law_draw .nil pass0 (pa_cons (pv 0) (pa_cons pe_int pa_nil)))) pa_nil))) pa_nil)))
      (C8.pss_cut (ps_if (pt_cmpR op_eq (pe_call G_law_draw (hr.mono (by decide)) rfl T.g__law_draw T.k__law_draw T.bd__law_draw .nil pass0 (pa_cons (pv 0) (pa_cons pe_int pa_nil))) pe_int (nomark _)) (pss_one (ps_set (i := 7) sc_law_deed.nd rfl (Or.inl rfl) (pe_call G_law_draw (hr.mono (by decide)) rfl T.g__law_draw T.k__law_draw T.bd__law_draw .nil pass0 (pa_cons (pv 0) (pa_cons (pe_callB call_len_seq (by rfl) T.b_len (by decide +kernel) (pa_cons (pv 3) pa_nil)) pa_nil))))) pss_nil)
      (pss_cons (ps_if (PW.pt (pw_and (pt_cmpR op_gt (pe_dget (hu_of hr) (pv 2) pe_str (fun _ _ => rfl)) (pv 6) (nomark _)) (pw_and1 (pt_cmpR op_gt (pe_call G_law_draw (hr.mono (by decide)) rfl T.g__law_draw T.k__law_draw T.bd__law_draw .nil pass0 (pa_cons (pv 0) (pa_cons pe_int pa_nil))) pe_int (nomark _))))) (pss_one (ps_ret (pe_call G_law_write (hr.mono (by decide)) rfl T.g__law_write T.k__law_write T.bd__law_write .nil pass0 (pa_cons (pv 1) (pa_cons (pv 2) (pa_cons pe_int (pa_cons (pv 7) pa_nil))))))) pss_nil)
      (pss_one (ps_ret pe_bl)))))))) pss_nil)
      (pss_cons (ps_if (pt_cmpR op_lt (pv 4) pe_int (nomark _)) (pss_one (ps_ret (pe_or (pe_cmpR op_eq (pe_dget (hu_of hr) (pv 2) pe_str (fun _ _ => rfl)) pe_int (nomark _)) (pe_one (pe_call G_law_goes_up (hr.mono (by decide)) rfl T.g__law_goes_up T.k__law_goes_up T.bd__law_goes_up .nil pass0 (pa_cons (pv 1) (pa_cons (pv 2) pa_nil))))))) pss_nil)
      (pss_cons (ps_if (pt_cmpR op_lt (pv 4) pe_int (nomark _)) (pss_one (ps_ret (pe_call G_law_write (hr.mono (by decide)) rfl T.g__law_write T.k__law_write T.bd__law_write .nil pass0 (pa_cons (pv 1) (pa_cons (pv 2) (pa_cons (pe_call G_law_draw (hr.mono (by decide)) rfl T.g__law_draw T.k__law_draw T.bd__law_draw .nil pass0 (pa_cons (pv 0) (pa_cons pe_int pa_nil))) (pa_cons (pe_call G_law_word (hr.mono (by decide)) rfl T.g__law_word T.k__law_word T.bd__law_word .nil pass0 (pa_cons (pv 0) pa_nil)) pa_nil))))))) pss_nil)
      (pss_cons (ps_if (pt_cmpR op_eq (pv 4) pe_int (nomark _)) (C8.pss_cut (ps_set (i := 8) sc_law_deed.nd rfl (Or.inl rfl) (pe_call G_law_draw (hr.mono (by decide)) rfl T.g__law_draw T.k__law_draw T.bd__law_draw .nil pass0 (pa_cons (pv 0) (pa_cons (pe_callB call_len_seq (by rfl) T.b_len (by decide +kernel) (pa_cons (pv 3) pa_nil)) pa_nil))))
      (C8.pss_cut (ps_set (i := 9) sc_law_deed.nd rfl (Or.inl rfl) (pe_call G_law_word (hr.mono (by decide)) rfl T.g__law_word T.k__law_word T.bd__law_word .nil pass0 (pa_cons (pv 0) pa_nil)))
      (C8.pss_cut (ps_asg (pv 9) (pg_sub (pv 3) (pv 8) set_list))
      (pss_cons (ps_set (i := 10) sc_law_deed.nd rfl (Or.inl rfl) (pe_dget (hu_of hr) (pv 2) pe_str (fun _ _ => rfl)))
      (pss_cons (ps_asg (pv 9) (pg_sub (pv 10) (pv 8) set_list))
      (pss_one (ps_ret pe_bl))))))) pss_nil)
      (pss_cons (ps_if (pt_cmpR op_eq (pv 4) pe_int (nomark _)) (pss_one (ps_ret (pe_call G_law_alike (hr.mono (by decide)) rfl T.g__law_alike T.k__law_alike T.bd__law_alike .nil pass0 (pa_cons (pv 1) (pa_cons (pv 2) (pa_cons (pv 3) pa_nil)))))) pss_nil)
      (pss_cons (ps_if (pt_cmpR op_eq (pv 4) pe_int (nomark _)) (pss_one (ps_ret (pe_call G_law_write (hr.mono (by decide)) rfl T.g__law_write T.k__law_write T.bd__law_write .nil pass0 (pa_cons (pv 1) (pa_cons (pv 2) (pa_cons (pe_ix ix_list (pe_lst (pa_cons pe_int (pa_cons pe_int pa_nil))) (pe_call G_law_draw (hr.mono (by decide)) rfl T.g__law_draw T.k__law_draw T.bd__law_draw .nil pass0 (pa_cons (pv 0) (pa_cons pe_int pa_nil))) (fun _ _ => rfl)) (pa_cons (pe_op op_sub (pe_call G_law_draw (hr.mono (by decide)) rfl T.g__law_draw T.k__law_draw T.bd__law_draw .nil pass0 (pa_cons (pv 0) (pa_cons (pe_op op_add (pe_callB call_len_seq (by rfl) T.b_len (by decide +kernel) (pa_cons (pv 3) pa_nil)) pe_int) pa_nil))) pe_int) pa_nil))))))) pss_nil)
      (pss_cons (ps_set (i := 11) sc_law_deed.nd rfl (Or.inl rfl) (pe_call G_law_draw (hr.mono (by decide)) rfl T.g__law_draw T.k__law_draw T.bd__law_draw .nil pass0 (pa_cons (pv 0) (pa_cons pe_int pa_nil))))
      (pss_one (ps_ret (pe_and (pe_call G_law_is_integer (hr.mono (by decide)) rfl T.g__law_is_integer T.k__law_is_integer T.bd__law_is_integer .nil pass0 (pa_cons (pe_meth (pv 1) T.cl_Ring T.m_Ring_read G_Ring_read (hr.mono (by decide)) T.bd_Ring_read .nil pass0 (pa_cons (pv 11) pa_nil)) pa_nil)) (pe_one (pe_cmpR op_eq (pe_meth (pv 1) T.cl_Ring T.m_Ring_read G_Ring_read (hr.mono (by decide)) T.bd_Ring_read .nil pass0 (pa_cons (pv 11) pa_nil)) (pe_call G_law_get (hr.mono (by decide)) rfl T.g__law_get T.k__law_get T.bd__law_get .nil pass0 (pa_cons (pv 2) (pa_cons (pv 11) pa_nil))) (nomark _)))))))))))))), ?_⟩
    refine ⟨_, rfl, τ, st, ca, ns, 14, rfl, J0.s, by decide, by decide, fun c H1 c0 c1 S1 F1 => ?_⟩
    have J := J0.step F1 S1
    clear J0 S1 F1
    obtain ⟨len, hme, el, hl⟩ := J.len
    have h48 := J.l
    refine ⟨_, rfl, _, _, rfl, rfl, _, rfl, ite3 (fun e => ?_) (fun e => ?_)⟩
    · refine ⟨fun σ H' => J7 a.C_Ring τ H' st ca ns t me m S ∧ ∃ b, σ = [some (.ref st), some (.ref t), some (.ref m), some (.ref me), some (.int c), some (.int b), none, none, none, none, none, none], ?_, ?_⟩
      · refine ⟨_, rfl, τ, 2, m, S, 14, rfl, J.M, J.o, by decide, fun H2 s2 => ⟨J.same s2, _, rfl⟩⟩
      clear J hme
      rintro σ H1 ⟨J, b, rfl⟩
      refine ⟨fun σ H' => J7 a.C_Ring τ H' st ca ns t me m S ∧ σ = [some (.ref st), some (.ref t), some (.ref m), some (.ref me), some (.int c), some (.int b), some (.int S.A.n), none, none, none, none, none], ?_, ?_⟩
      · obtain ⟨me2, sh, ro, pr, lr, rr, N⟩ := J.M
        exact ⟨_, rfl, m, _, rfl, DGet.k N.m.1 (k := .inr "depth"), J, rfl⟩
      clear J
      rintro σ H1 ⟨J, rfl⟩
      refine ⟨fun σ H' => ∃ S' τ', J7 a.C_Ring τ' H' st ca ns t me m S' ∧ S'.A.n ≤ S.A.n + 1 ∧ σ = [some (.ref st), some (.ref t), some (.ref m), some (.ref me), some (.int c), some (.int b), some (.int S.A.n), none, none, none, none, none], ?_, ?_⟩
      · refine ⟨_, rfl, _, rfl, τ, t, me, m, S, rfl, J.R, J.M, J.o, hn, fun S' τ' H' ed R' M' F' => ⟨_, rfl, iteF ?_⟩⟩
        obtain ⟨o', n', l'⟩ := J.o.goD hn ed
        exact ⟨S', τ', J.go F' R' M' o' l', n', rfl⟩
      clear J
      rintro σ H1 ⟨S2, τ2, J, n2, rfl⟩
      refine ⟨fun σ H' => ∃ τ' y, J7 a.C_Ring τ' H' st ca ns t me m S2 ∧ σ = [some (.ref st), some (.ref t), some (.ref m), some (.ref me), some (.int c), some (.int b), some (.int S.A.n), some (.int y), none, none, none, none], ?_, ?_⟩
      · refine ⟨_, rfl, _, rfl, _, _, rfl, rfl, _, rfl, τ2, st, ca, ns, 3, rfl, J.s, by decide, by decide, fun d H2 d0 d1 S3 F3 => ⟨_, _, rfl, rfl, (by show 2 ≤ sizeLine; decide), fun p np => ⟨p, [-2147483648, b - 16 - d], rfl, SqL.of upd_same, Nat.succ_pos _, fun x hx hle => ⟨τ2, x, (J.step F3 S3).same (sN (Same.refl _) np), rfl⟩⟩⟩⟩
      clear J
      rintro σ H1 ⟨τ3, y, J, rfl⟩
      refine ⟨fun σ H' => ∃ τ' y, J7 a.C_Ring τ' H' st ca ns t me m S2 ∧ σ = [some (.ref st), some (.ref t), some (.ref m), some (.ref me), some (.int c), some (.int b), some (.int S.A.n), some (.int y), none, none, none, none], ?_, ?_⟩
      · refine ⟨_, rfl, τ3, st, ca, ns, 5, rfl, J.s, by decide, by decide, fun d H2 d0 d1 S3 F3 => ⟨rfl, _, rfl, ite3 (fun e2 => ?_) (fun e2 => ?_)⟩⟩
        · have J := J.step F3 S3
          obtain ⟨len2, hme2, el2, hl2⟩ := J.len
          have h482 := J.l
          refine ⟨_, rfl, _, rfl, _, _, rfl, .inl (SqL.of hme2), τ3, st, ca, ns, _, rfl, J.s, (by rw [List.length_map]; omega), (by rw [List.length_map]; omega), fun y H3 y0 y1 S4 F4 => ⟨τ3, y, J.step F4 S4, rfl⟩⟩
        · exact ⟨τ3, y, J.step F3 S3, rfl⟩
      clear J
      rintro σ H1 ⟨τ4, z, J, rfl⟩
      have last : ∀ (j : Nat) {τ : Tg} {H : Hp}, J7 a.C_Ring τ H st ca ns t me m S2 → j < 32 → spWrM a.C_Ring [.ref t, .ref m, .int j, .int z] H Q E0 := fun j τ H J hj => ⟨τ, t, me, m, S2, j, z, rfl, J.R, J.M, J.o, hj, fun H' R' M' F' => q τ H' _ (J.wr F' R' M') (by rw [wr_n]; exact n2)⟩
      obtain ⟨me2, sh, ro, pr, lr, rr, N⟩ := id J.M
      refine ⟨_, rfl, m, V.int S2.A.n, rfl, DGet.k N.m.1 (k := .inr "depth"), _, rfl, _, _, rfl, rfl, _, rfl, ite3 (fun e2 => ?_) (fun e2 => ?_)⟩
      · refine ⟨_, rfl, τ4, st, ca, ns, 9, rfl, J.s, by decide, by decide, fun d H2 d0 d1 S3 F3 => ⟨_, _, rfl, rfl, _, rfl, ite3 (fun e3 => ?_) (fun e3 => ?_)⟩⟩
        · exact ⟨_, rfl, _, rfl, _, rfl, last 14 (J.step F3 S3) (by decide)⟩
        · exact q τ4 _ S2 (J.step F3 S3) n2
      · exact q τ4 _ S2 J n2
    refine ⟨_, rfl, _, _, rfl, rfl, _, rfl, ite3 (fun e1 => ?_) (fun e1 => ?_)⟩
    · obtain ⟨me2, sh, ro, pr, lr, rr, N⟩ := id J.M
      refine ⟨_, rfl, m, V.int S.A.n, rfl, DGet.k N.m.1 (k := .inr "depth"), rfl, _, rfl, ite3 (fun e2 => ?_) (fun e2 => ?_)⟩
      · exact q τ _ S J (Nat.le_succ _)
      · have hn0 : 0 < S.A.n := by
          have e2 := of_decide_eq_false e2
          refine Nat.pos_of_ne_zero fun z => e2 ?_
          rw [z]; rfl
        refine ⟨_, rfl, _, rfl, τ, t, me, m, S, rfl, J.R, J.M, J.o, hn0, fun S' τ' H' ed R' M' F' => ?_⟩
        obtain ⟨o', n', l'⟩ := J.o.goU hn0 ed
        exact q τ' H' S' (J.go F' R' M' o' l') (by omega)
    have wrt : ∀ (j : Nat) (y : Int) {τ : Tg} {H : Hp}, J7 a.C_Ring τ H st ca ns t me m S → j < 32 → spWrM a.C_Ring [.ref t, .ref m, .int j, .int y] H Q E0 := fun j y τ H J hj => ⟨τ, t, me, m, S, j, y, rfl, J.R, J.M, J.o, hj, fun H' R' M' F' => q τ H' _ (J.wr F' R' M') (by rw [wr_n]; exact Nat.le_succ _)⟩
    refine ⟨_, rfl, _, _, rfl, rfl, _, rfl, ite3 (fun e2 => ?_) (fun e2 => ?_)⟩
    · refine ⟨_, rfl, _, rfl, _, rfl, τ, st, ca, ns, 32, rfl, J.s, by decide, by decide, fun j H2 j0 j1 S2 F2 => ?_⟩
      have J := J.step F2 S2
      obtain ⟨j, rfl⟩ : ∃ k : Nat, j = (k : Int) := ⟨j.toNat, by omega⟩
      exact ⟨_, rfl, τ, st, ca, ns, rfl, J.s, fun y τ' H3 S3 F3 => wrt j y (J.step F3 S3) (by omega)⟩
    refine ⟨_, rfl, rfl, _, rfl, ite3 (fun e3 => ?_) (fun e3 => ?_)⟩
    · refine ⟨fun σ H' => J7 a.C_Ring τ H' st ca ns t me m S ∧ ∃ k : Nat, k < S.M.length ∧ σ = [some (.ref st), some (.ref t), some (.ref m), some (.ref me), some (.int c), none, none, none, some (.int k), none, none, none], ?_, ?_⟩
      · refine ⟨_, rfl, _, rfl, _, _, rfl, .inl (SqL.of hme), τ, st, ca, ns, _, rfl, J.s, (by rw [List.length_map]; omega), (by rw [List.length_map]; omega), fun y H3 y0 y1 S4 F4 => ⟨J.step F4 S4, y.toNat, ?_, ?_⟩⟩
        · rw [List.length_map] at y1; omega
        · rw [show ((y.toNat : Nat) : Int) = y by omega]; rfl
      clear J hme
      rintro σ H1 ⟨J, k, hk, rfl⟩
      refine ⟨fun σ H' => ∃ τ' y, J7 a.C_Ring τ' H' st ca ns t me m S ∧ σ = [some (.ref st), some (.ref t), some (.ref m), some (.ref me), some (.int c), none, none, none, some (.int k), some (.int y), none, none], ?_, ?_⟩
      · exact ⟨_, rfl, τ, st, ca, ns, rfl, J.s, fun y τ' H3 S3 F3 => ⟨τ', y, J.step F3 S3, rfl⟩⟩
      clear J
      rintro σ H1 ⟨τ1, y, J, rfl⟩
      obtain ⟨dx, vw, ab, ar, W⟩ := id J.R
      obtain ⟨me2, sh, ro, pr, lr, rr, N⟩ := id J.M
      have F1 := (Stp.refl (τ := τ1) (S := [8]) (H := H1)).put (o := .lst ((S.M.set k y).map V.int)) (mem1 W.me.2 rfl)
      refine ⟨fun σ H' => H' = upd H1 me (.lst ((S.M.set k y).map V.int)) ∧ σ = [some (.ref st), some (.ref t), some (.ref m), some (.ref me), some (.int c), none, none, none, some (.int k), some (.int y), none, none], ?_, ?_⟩
      · refine ⟨_, rfl, _, rfl, _, rfl, _, _, _, _, rfl, rfl, W.me.1, ixN_nat (by rw [List.length_map]; exact hk), ?_⟩
        rw [set_int]
        exact ⟨rfl, rfl⟩
      rintro σ H2 ⟨rfl, rfl⟩
      have R1 := J.R.me (M := S.M.set k y) (by decide)
      have N1 := N.st F1 (by simp)
      have s1 := J.s.step F1 (by simp)
      refine ⟨_, rfl, m, V.ref me2, rfl, DGet.k N1.m.1 (k := .inr "memory"), ?_⟩
      have F2 := (Stp.refl (τ := τ1) (S := [2]) (H := upd H1 me (.lst ((S.M.set k y).map V.int)))).put (o := .lst ((S.M.set k y).map V.int)) (mem1 N1.me.2 rfl)
      have N2 := N1.memW (S.M.set k y)
      refine ⟨_, rfl, _, rfl, _, rfl, _, _, _, _, rfl, rfl, N1.me.1, ixN_nat (by rw [List.length_map]; exact hk), ?_⟩
      rw [set_int]
      refine q τ1 _ { S with M := S.M.set k y } ⟨s1.step F2 (by simp), R1.st F2 (by simp) (by simp), ⟨_, _, _, _, _, _, N2⟩, ⟨J.o.a, J.o.b, J.o.w, J.o.w3, J.o.w4, ?_, J.o.n⟩, ?_⟩ (Nat.le_succ _)
      · show (S.M.set k y).length ≤ 900; rw [List.length_set]; exact J.o.m
      · show 48 ≤ (S.M.set k y).length; rw [List.length_set]; exact J.l
    refine ⟨_, rfl, rfl, _, rfl, ite3 (fun e4 => ?_) (fun e4 => ?_)⟩
    · exact ⟨_, rfl, _, rfl, _, rfl, τ, t, me, m, S, rfl, J.R, J.M, J.o, fun H2 s2 => q τ H2 S (J.same s2) (Nat.le_succ _)⟩
    refine ⟨_, rfl, rfl, _, rfl, ite3 (fun e5 => ?_) (fun e5 => ?_)⟩
    · refine ⟨_, rfl, _, rfl, (by show 2 ≤ sizeLine; decide), fun p np => ⟨_, rfl, tgN τ p (7, 0, 0), st, ca, ns, 2, rfl, (J.new np).s, by decide, by decide, fun j H2 j0 j1 S2 F2 => ?_⟩⟩
      have J := (J.new np).step F2 S2
      have hp := F2.fr p _ upd_same (by rw [tg_same]; simp)
      obtain ⟨len2, hme2, el2, hl2⟩ := J.len
      obtain ⟨x, hx, hx2⟩ : ∃ x : Nat, atI [V.int 14, V.int 30] j = some (.int x) ∧ x < 32 := by
        obtain rfl | rfl : j = 0 ∨ j = 1 := by omega
        · exact ⟨14, at0, by decide⟩
        · exact ⟨30, atI_nat (j := 1) rfl, by decide⟩
      exact ⟨_, _, _, _, rfl, rfl, SqL.of hp, hx, _, rfl, _, rfl, _, _, rfl, .inl (SqL.of hme2), _, _, rfl, rfl, tgN τ p (7, 0, 0), st, ca, ns, _, rfl, J.s, (by rw [List.length_map]; omega), (by rw [List.length_map]; omega), fun y H3 y0 y1 S3 F3 => ⟨_, _, rfl, rfl, wrt x _ (J.step F3 S3) hx2⟩⟩
    refine ⟨_, rfl, τ, st, ca, ns, 32, rfl, J.s, by decide, by decide, fun j H2 j0 j1 S2 F2 => ?_⟩
    have J := J.step F2 S2
    obtain ⟨j, rfl⟩ : ∃ k : Nat, j = (k : Int) := ⟨j.toNat, by omega⟩
    obtain ⟨dx, vw, ab, ar, W⟩ := id J.R
    refine ⟨_, rfl, t, dx, _, rfl, W.ob.1, rgf_no_read _ _ _ _ _ _ _ _, _, rfl, τ, 1, t, me, S, j, rfl, J.R, J.o, by omega, _, rfl, _, rfl, iteT ?_⟩
    refine ⟨_, rfl, t, dx, _, rfl, W.ob.1, rgf_no_read _ _ _ _ _ _ _ _, _, rfl, τ, 1, t, me, S, j, rfl, J.R, J.o, by omega, ?_⟩
    refine ⟨_, rfl, _, rfl, τ, 2, m, S, j, rfl, J.M, J.o, by omega, fun H3 s3 => ⟨rfl, ?_⟩⟩
    rw [decide_eq_true rfl]
    exact q τ H3 S (J.same s3) (Nat.le_succ _)
end

theorem StDG.first {H : Hp} {st ca : Addr} {ns : List Int} {t b : Int} (h1 : H ca = some (.lst (ns.map V.int))) (h2 : H st = some (.lst [.ref ca, .int 0, .int 0, .int 0, .int t, .int b])) : ∃ τ, StDG τ H st ca ns := by
  have ne : ca ≠ st := fun e => by
    rw [e, h2] at h1
    have := HO.lst.inj (Option.some.inj h1)
    cases ns with
    | nil => cases this
    | cons x r =>
      rw [List.map_cons] at this
      have := (List.cons.inj this).1
      cases this
  exact ⟨tgN (fun _ => (4, 1, 0)) st (4, 0, 0), ⟨⟨0, 0, 0, t, b, by decide, h2⟩, h1⟩, tg_same, tg_ne ne⟩
/-- the pieces of the model before its counts are there -/
structure K7 (C : Addr) (τ : Tg) (H : Hp) (st ca : Addr) (ns : List Int) (t me m : Addr) (me2 sh ou l0 r0 p0 ro : Addr) (S : RS) (kvs : List (Key × V)) : Prop where
  s : StDG τ H st ca ns
  R : RG C τ 1 H t me S
  m : At τ H m (.dK kvs) (2, 0, 0)
  sh : At τ H sh (.lst (z8.map V.int)) (2, 1, 0)
  ro : At τ H ro (.lst [.ref p0]) (2, 2, 0)
  pr : At τ H p0 (.lst [.ref l0, .ref r0]) (2, 3, 0)
  r0 : At τ H r0 (.lst (z8.map V.int)) (2, 4, 0)
  ou : At τ H ou (.lst (z8.map V.int)) (2, 4, 1)
  l0 : At τ H l0 (.lst (z8.map V.int)) (2, 5, 0)
  me : At τ H me2 (.lst (S.M.map V.int)) (2, 6, 0)
def md5 (W : Nat) (me sh ou ro : Addr) : List (Key × V) := [(.inr "windows", .int W), (.inr "memory", .ref me), (.inr "shared", .ref sh), (.inr "outs", .ref ou), (.inr "rows", .ref ro)]
def ks3 : List (Key × V) := [(.inr "spills", .int 0), (.inr "fills", .int 0), (.inr "depth", .int 0)]
def S0 (M : List Int) (W : Nat) : RS := ⟨.zero, 0, M, 0, 0, W⟩
theorem S0_ok {M : List Int} {W : Nat} (h : M.length ≤ 900) (h3 : 3 ≤ W) (h4 : W ≤ 100) : (S0 M W).ok := ⟨Ab.zero_ok, Nat.le_refl _, by show 0 + 2 ≤ 0 + W; omega, h3, h4, h, Nat.zero_le _⟩
theorem K7.fin {C : Addr} {τ : Tg} {H : Hp} {st ca t me m me2 sh ou l0 r0 p0 ro : Addr} {ns M : List Int} {W : Nat} (h : K7 C τ H st ca ns t me m me2 sh ou l0 r0 p0 ro (S0 M W) (md5 W me2 sh ou ro ++ ks3)) (h1 : 48 ≤ M.length) (h2 : M.length ≤ 900) (h3 : 3 ≤ W) (h4 : W ≤ 100) :
    J7 C τ H st ca ns t me m (S0 M W) := by
  refine ⟨h.s, h.R, ⟨me2, sh, ro, fun _ => p0, fun _ => l0, fun k => if k = 0 then r0 else ou, ⟨h.m, h.sh, h.ro, fun k k1 k2 => ?_, fun k k1 k2 => ?_, fun k k1 k2 => ?_, h.me⟩⟩, S0_ok h2 h3 h4, h1⟩
  · obtain rfl : k = 0 := Nat.le_zero.mp k2
    exact h.pr
  · have k2 : k ≤ 1 := k2
    obtain rfl | rfl : k = 0 ∨ k = 1 := by omega
    · exact h.r0
    · exact h.ou
  · obtain rfl : k = 0 := Nat.le_zero.mp k2
    exact h.l0
def spLaw (K : PySem.W.Frag) : Sp := fun vs H Q _ => ∃ (a : Addr) (ns : List Int), vs = [.ref a] ∧ SqL K H a (ns.map V.int) ∧ ns.length ≤ 63 ∧ ∀ H', Q (.bl true) H'
section
variable {P : Program} {w : World} {K : PySem.W.Frag} {mg : Str → Option Value} {base : Heap} {a : Ad}
theorem ok_law (T : Txt K mg a) : FnOk P w K mg base CX0 6 a.f_law a.d_law ["script"] (spLaw K) := by
  have G_law_state : FnOk P w K mg base CX0 1 _ _ _ _ := ok_law_state T
  have G_law_draw : FnOk P w K mg base CX0 3 _ _ _ _ := ok_drawG T
  have G_law_is_integer : FnOk P w K mg base CX0 1 _ _ _ _ := ok_law_is_integer T
  have G_law_write : FnOk P w K mg base CX0 3 _ _ _ _ := ok_law_write T
  have G_law_alike : FnOk P w K mg base CX0 3 _ _ _ _ := ok_law_alike T
  have G_law_goes_up : FnOk P w K mg base CX0 4 _ _ _ _ := ok_law_goes_up T
  have G_law_deed : FnOk P w K mg base CX0 5 _ _ _ _ := ok_law_deed T
  have G_Ring___init__ : FnOk P w K mg base CX0 2 _ _ _ _ := ok_Ring_init T
  refine T.F_law.ok sc_law (fun vs H Q E h => ?_) (fun cdv A outer s H vs Q E hr h => ?_)
  · obtain ⟨_, _, rfl, _⟩ := h; rfl
  · obtain ⟨sa, ns, rfl, hS, hlen, q⟩ := h
    refine ⟨_, (pss_cons (ps_set (i := 1) sc_law.nd rfl (Or.inl rfl) (pe_call G_law_state (hr.mono (by decide)) rfl T.g__law_state T.k__law_state T.bd__law_state .nil pass0 (pa_cons (pv 0) (pa_cons pe_int pa_nil))))
      (C8.pss_cut (ps_set (i := 2) sc_law.nd rfl (Or.inl rfl) (pe_op op_add pe_int (pe_call G_law_draw (hr.mono (by decide)) rfl T.g__law_draw T.k__law_draw T.bd__law_draw .nil pass0 (pa_cons (pv 1) (pa_cons (pe_ix ix_list (pe_lst (pa_cons pe_int (pa_cons pe_int (pa_cons pe_int (pa_cons pe_int pa_nil))))) (pe_call G_law_draw (hr.mono (by decide)) rfl T.g__law_draw T.k__law_draw T.bd__law_draw .nil pass0 (pa_cons (pv 1) (pa_cons pe_int pa_nil))) (fun _ _ => rfl)) pa_nil)))))
      (C8.pss_cut (ps_set (i := 3) sc_law.nd rfl (Or.inr rfl) (pe_call G_law_draw (hr.mono (by decide)) rfl T.g__law_draw T.k__law_draw T.bd__law_draw .nil pass0 (pa_cons (pv 1) (pa_cons pe_int pa_nil))))
      (C8.pss_cut (ps_setLc (i := 4) (own := [("k", 5)]) (g := gName 5) rfl sc_law.nd rfl rfl (sw_true rfl rfl rfl (by decide +kernel)) (pi_range1 rfl T.b_range (pa_cons (pe_op op_add pe_int (pe_call G_law_draw (hr.mono (by decide)) rfl T.g__law_draw T.k__law_draw T.bd__law_draw .nil pass0 (pa_cons (pv 1) (pa_cons pe_int pa_nil)))) pa_nil)) (blkOk_by (own := [("k", 5)]) (N := ["script", "state", "windows", "junk", "memory", "k", "ring", "m", "key", "turn", "word"]) (sc := defScope s_law) (by decide +kernel)) (fun _ _ _ _ _ => pg_name (i := 5) sc_law.nd rfl (Or.inl rfl)) (fun _ _ _ _ _ => pts_nil) (fun _ _ _ _ _ => (pe_op op_sub (pv 3) (pe_op op_mul pe_int (pv 5)))))
      (C8.pss_cut (ps_set (i := 6) sc_law.nd rfl (Or.inl rfl) (pe_make T.mk_Ring G_Ring___init__ (hr.mono (by decide)) rfl T.g_Ring T.bd_Ring___init__ .nil pass0 (pa_cons (pv 4) (pa_cons (pv 2) pa_nil))))
      (C8.pss_cut (ps_set (i := 7) sc_law.nd rfl (Or.inl rfl) (pe_disp (pps_cons pe_str (pv 2) (pps_cons pe_str (pe_callTy call_list_of (by rfl) T.b_list (by decide +kernel) (pa_cons (pv 4) pa_nil)) (pps_cons pe_str (pe_op op_rep (pe_lst (pa_cons pe_int pa_nil)) pe_int) (pps_cons pe_str (pe_op op_rep (pe_lst (pa_cons pe_int pa_nil)) pe_int) (pps_cons pe_str (pe_lst (pa_cons (pe_lst (pa_cons (pe_op op_rep (pe_lst (pa_cons pe_int pa_nil)) pe_int) (pa_cons (pe_op op_rep (pe_lst (pa_cons pe_int pa_nil)) pe_int) pa_nil))) pa_nil)) pps_nil))))) (by rfl) (by rfl) (fun z => by cases z) (by decide)))
      (C8.pss_cut (ps_for PassesOwn.never rfl (pi_list (pe_lst (pa_cons pe_str (pa_cons pe_str (pa_cons pe_str pa_nil))))) (pg_name (i := 8) sc_law.nd rfl (Or.inl rfl)) (pss_one (ps_dput (hu_of hr) (pv 7) (pv 8) pe_int rfl)))
      (C8.pss_cut (ps_if (PW.pt (pw_or (pt_not (pt_val (pe_call G_law_alike (hr.mono (by decide)) rfl T.g__law_alike T.k__law_alike T.bd__law_alike .nil pass0 (pa_cons (pv 6) (pa_cons (pv 7) (pa_cons (pv 4) pa_nil)))))) (pw_or1 (pt_not (pt_val (pe_call G_law_write (hr.mono (by decide)) rfl T.g__law_write T.k__law_write T.bd__law_write .nil pass0 (pa_cons (pv 6) (pa_cons (pv 7) (pa_cons pe_int (pa_cons (pe_op op_sub (pe_callB call_len_seq (by rfl) T.b_len (by decide +kernel) (pa_cons (pv 4) pa_nil)) pe_int) pa_nil)))))))))) (pss_one (ps_ret pe_bl)) pss_nil)
      (C8.pss_cut (ps_for PassesOwn.never rfl (pi_range1 rfl T.b_range (pa_cons (pe_op op_add pe_int (pe_call G_law_draw (hr.mono (by decide)) rfl T.g__law_draw T.k__law_draw T.bd__law_draw .nil pass0 (pa_cons (pv 1) (pa_cons pe_int pa_nil)))) pa_nil)) (pg_name (i := 9) sc_law.nd rfl (Or.inl rfl)) (pss_one (ps_if (pt_not (pt_val (pe_call G_law_deed (hr.mono (by decide)) rfl T.g__law_deed T.k__law_deed T.bd__law_deed .nil pass0 (pa_cons (pv 1) (pa_cons (pv 6) (pa_cons (pv 7) (pa_cons (pv 4) pa_nil))))))) (pss_one (ps_ret pe_bl)) pss_nil)))
      (pss_cons (ps_for PassesOwn.never rfl (pi_range1 rfl T.b_range (pa_cons pe_int pa_nil)) (pg_name (i := 9) sc_law.nd rfl (Or.inl rfl)) (pss_cons (ps_if (pt_not (pt_val (pe_call G_law_alike (hr.mono (by decide)) rfl T.g__law_alike T.k__law_alike T.bd__law_alike .nil pass0 (pa_cons (pv 6) (pa_cons (pv 7) (pa_cons (pv 4) pa_nil)))))) (pss_one (ps_ret pe_bl)) pss_nil)
      (C8.pss_cut (ps_if (PW.pt (pw_and (pt_cmpR op_gt (pe_dget (hu_of hr) (pv 7) pe_str (fun _ _ => rfl)) pe_int (nomark _)) (pw_and1 (pt_not (pt_val (pe_call G_law_goes_up (hr.mono (by decide)) rfl T.g__law_goes_up T.k__law_goes_up T.bd__law_goes_up .nil pass0 (pa_cons (pv 6) (pa_cons (pv 7) pa_nil)))))))) (pss_one (ps_ret pe_bl)) pss_nil)
      (pss_one (ps_if (PW.pt (pw_and (pt_cmpR op_eq (pe_op op_mod (pe_callTy call_int1 (by rfl) T.b_int (by decide +kernel) (pa_cons (pv 9) pa_nil)) pe_int) pe_int (nomark _)) (pw_and1 (pt_not (pt_val (pe_call G_law_write (hr.mono (by decide)) rfl T.g__law_write T.k__law_write T.bd__law_write .nil pass0 (pa_cons (pv 6) (pa_cons (pv 7) (pa_cons pe_int (pa_cons (pe_call G_law_draw (hr.mono (by decide)) rfl T.g__law_draw T.k__law_draw T.bd__law_draw .nil pass0 (pa_cons (pv 1) (pa_cons (pe_callB call_len_seq (by rfl) T.b_len (by decide +kernel) (pa_cons (pv 4) pa_nil)) pa_nil))) pa_nil)))))))))) (pss_one (ps_ret pe_bl)) pss_nil)))))
      (pss_one (ps_ret (pe_and (pe_call G_law_alike (hr.mono (by decide)) rfl T.g__law_alike T.k__law_alike T.bd__law_alike .nil pass0 (pa_cons (pv 6) (pa_cons (pv 7) (pa_cons (pv 4) pa_nil)))) (pe_one (pe_callB (cr_all rfl) (by rfl) T.b_all (by decide +kernel) (pa_cons (pe_lc (own := [("word", 10)]) (g := gName 10) rfl sc_law.nd (pi_list (pv 4)) (blkOk_by (own := [("word", 10)]) (N := ["script", "state", "windows", "junk", "memory", "k", "ring", "m", "key", "turn", "word"]) (sc := defScope s_law) (by decide +kernel)) (fun _ _ _ _ _ => pg_name (i := 10) sc_law.nd rfl (Or.inl rfl)) (fun _ _ _ _ _ => pts_nil) (fun _ _ _ _ _ => (pe_call G_law_is_integer (hr.mono (by decide)) rfl T.g__law_is_integer T.k__law_is_integer T.bd__law_is_integer .nil pass0 (pa_cons (pv 10) pa_nil)))) pa_nil)))))))))))))))), ?_⟩
    refine ⟨_, rfl, sa, ns, 0, rfl, hS, hlen, fun st ca H1 x1 x2 n1 n2 e1 e2 s1 => ?_⟩
    obtain ⟨τ1, S1⟩ := StDG.first e1 e2
    clear e1 e2 n1 n2 s1
    refine ⟨fun σ H' => ∃ τ, StDG τ H' st ca ns ∧ ∃ n : Nat, 3 ≤ n ∧ n ≤ 100 ∧ σ = [some (.ref sa), some (.ref st), some (.int n), none, none, none, none, none, none, none, none], ?_, ?_⟩
    · refine ⟨_, rfl, (by show 4 ≤ sizeLine; decide), fun p np => ⟨_, rfl, tgN τ1 p (7, 0, 0), st, ca, ns, 4, rfl, S1.step ((Stp.refl (τ := τ1) (S := [])).new np (x := (7, 0, 0))) (by simp), by decide, by decide, fun v H2 v0 v1 S2 F2 => ?_⟩⟩
      have hp := F2.fr p _ upd_same (by rw [tg_same]; simp)
      obtain ⟨x, hx, hx2, hx3⟩ : ∃ x, atI [V.int 4, V.int 4, V.int 4, V.int 30] v = some (.int x) ∧ 0 < x ∧ x ≤ 30 := by
        obtain rfl | rfl | rfl | rfl : v = 0 ∨ v = 1 ∨ v = 2 ∨ v = 3 := by omega
        · exact ⟨_, at0, by decide, by decide⟩
        · exact ⟨_, atI_nat (j := 1) rfl, by decide, by decide⟩
        · exact ⟨_, atI_nat (j := 2) rfl, by decide, by decide⟩
        · exact ⟨_, atI_nat (j := 3) rfl, by decide, by decide⟩
      refine ⟨_, _, _, _, rfl, rfl, SqL.of hp, hx, _, st, ca, ns, _, rfl, S2, hx2, by omega, fun u H3 u0 u1 S3 F3 => ⟨_, _, rfl, rfl, _, S3, (3 + u).toNat, by omega, by omega, ?_⟩⟩
      rw [show (((3 + u).toNat : Nat) : Int) = 3 + u by omega]
      rfl
    clear S1
    rintro σ H1 ⟨τ1, S1, n, n3, n100, rfl⟩
    refine ⟨fun σ H' => ∃ τ j, StDG τ H' st ca ns ∧ σ = [some (.ref sa), some (.ref st), some (.int n), some (.int j), none, none, none, none, none, none, none], ?_, ?_⟩
    · exact ⟨_, rfl, τ1, st, ca, ns, _, rfl, S1, by decide, by decide, fun u H3 u0 u1 S3 F3 => ⟨τ1, u, S3, rfl⟩⟩
    clear S1
    rintro σ H1 ⟨τ1, jk, S1, rfl⟩
    refine ⟨fun σ H' => ∃ (τ : Tg) (me : Addr) (M : List Int), StDG τ H' st ca ns ∧ At τ H' me (.lst (M.map V.int)) (8, 0, 0) ∧ 48 ≤ M.length ∧ M.length ≤ 900 ∧ σ = [some (.ref sa), some (.ref st), some (.int n), some (.int jk), some (.ref me), none, none, none, none, none, none], ?_, ?_⟩
    · refine ⟨_, rfl, τ1, st, ca, ns, 353, rfl, S1, by decide, by decide, fun u H2 u0 u1 S2 F2 => ⟨_, _, rfl, rfl, _, rfl, by omega, by omega, fun D nD => ?_⟩⟩
      refine lc_range (lo := 0) (n := (48 + u).toNat) (fun i H' => ∃ M : List Int, StDG (tgN τ1 D (8, 0, 0)) H' st ca ns ∧ At (tgN τ1 D (8, 0, 0)) H' D (.lst (M.map V.int)) (8, 0, 0) ∧ M.length = i) ⟨[], S2.step ((Stp.refl (τ := τ1) (S := [])).new nD (x := (8, 0, 0))) (by simp), At.mk, rfl⟩ ?_ ?_
      · rintro i H3 hi ⟨M, S3, D3, hM⟩
        refine ⟨rfl, _, rfl, _, rfl, _, _, rfl, rfl, .inl ⟨by decide, by decide⟩, _, _, rfl, rfl, _, D3.1, sz (by rw [List.length_map]; omega), M ++ [jk - 3 * (0 + (i : Int))], S3.step ((Stp.refl (S := [8])).put (mem1 D3.2 rfl)) (by simp), ?_, by rw [List.length_append, hM]; rfl⟩
        rw [List.map_append]
        exact .set D3.2
      · rintro H3 ⟨M, S3, D3, hM⟩
        exact ⟨_, D, M, S3, D3, by omega, by omega, rfl⟩
    clear S1
    rintro σ H1 ⟨τ1, me, M, S1, hme, m1, m2, rfl⟩
    refine ⟨fun σ H' => ∃ τ t, StDG τ H' st ca ns ∧ RG a.C_Ring τ 1 H' t me (S0 M n) ∧ σ = [some (.ref sa), some (.ref st), some (.int n), some (.int jk), some (.ref me), none, some (.ref t), none, none, none, none], ?_, ?_⟩
    · refine ⟨_, rfl, _, rfl, fun x0 dx0 nx0 ndx0 nex0 => ?_⟩
      have Fa := ((Stp.refl (τ := τ1) (S := []) (H := H1)).new ndx0 (o := .own x0) (x := (7, 0, 0))).new (p := x0) (o := .ins a.C_Ring dx0 []) (x := (1, 0, 0)) (by rw [upd_ne nex0.symm]; exact nx0)
      have aa : At (tgN (tgN τ1 dx0 (7, 0, 0)) x0 (1, 0, 0)) (upd (upd H1 dx0 (.own x0)) x0 (.ins a.C_Ring dx0 [])) x0 _ _ := At.mk
      have S2 := S1.step Fa (by simp)
      have hme2 := hme.st Fa (by simp)
      refine ⟨_, 1, x0, me, dx0, M, n, rfl, by decide, aa, hme2, fun τ4 H4 R4 F4 => ⟨rfl, τ4, x0, S2.step F4 (by simp), R4, rfl⟩⟩
    clear S1 hme
    rintro σ H1 ⟨τ1, t, S1, R1, rfl⟩
    refine ⟨fun σ H' => ∃ τ m me2 sh ou l0 r0 p0 ro, K7 a.C_Ring τ H' st ca ns t me m me2 sh ou l0 r0 p0 ro (S0 M n) (md5 n me2 sh ou ro) ∧ σ = [some (.ref sa), some (.ref st), some (.int n), some (.int jk), some (.ref me), none, some (.ref t), some (.ref m), none, none, none], ?_, ?_⟩
    · have r8 : (List.replicate (8 : Int).toNat [V.int 0]).flatten = z8.map V.int := rep_int 8
      intro m nm
      have F1 := (Stp.refl (τ := τ1) (S := []) (H := H1)).new nm (o := .dK []) (x := (2, 0, 0))
      have S2 := S1.step F1 (by simp)
      have R2 := R1.st F1 (by simp) (by simp)
      have am : At (tgN τ1 m (2, 0, 0)) (upd H1 m (.dK [])) m _ _ := At.mk
      generalize upd H1 m (.dK []) = H2 at S2 R2 am ⊢
      generalize tgN τ1 m (2, 0, 0) = τ2 at S2 R2 am
      clear F1 S1 R1 nm
      obtain ⟨dx, vw, ab, ar, W⟩ := id R2
      refine ⟨_, rfl, _, rfl, _, _, rfl, .inl (SqL.of W.me.1), fun me2 n2 => ?_⟩
      have F1 := (Stp.refl (τ := τ2) (S := []) (H := H2)).new n2 (o := .lst ((S0 M n).M.map V.int)) (x := (2, 6, 0))
      have S3 := S2.step F1 (by simp)
      have R3 := R2.st F1 (by simp) (by simp)
      have am := am.st F1 (by simp)
      have ae : At (tgN τ2 me2 (2, 6, 0)) (upd H2 me2 (.lst ((S0 M n).M.map V.int))) me2 _ _ := At.mk
      generalize upd H2 me2 (.lst ((S0 M n).M.map V.int)) = H3 at S3 R3 am ae ⊢
      generalize tgN τ2 me2 (2, 6, 0) = τ3 at S3 R3 am ae
      clear F1 S2 R2 W n2
      refine ⟨(by show 1 ≤ sizeLine; decide), fun b mb => ⟨_, _, _, rfl, rfl, upd_same, by decide, by decide, (by show 1 * 8 ≤ sizeLine; decide), fun sh n3 => ?_⟩⟩
      rw [r8]
      have F1 := (Stp.same (τ := τ3) (S := []) (sN (Same.refl H3) mb (o := .lst [V.int 0]))).new n3 (o := .lst (z8.map V.int)) (x := (2, 1, 0))
      have S4 := S3.step F1 (by simp)
      have R4 := R3.st F1 (by simp) (by simp)
      have am := am.st F1 (by simp)
      have ae := ae.st F1 (by simp)
      have as : At (tgN τ3 sh (2, 1, 0)) (upd (upd H3 b (.lst [V.int 0])) sh (.lst (z8.map V.int))) sh _ _ := At.mk
      generalize upd (upd H3 b (.lst [V.int 0])) sh (.lst (z8.map V.int)) = H4 at S4 R4 am ae as ⊢
      generalize tgN τ3 sh (2, 1, 0) = τ4 at S4 R4 am ae as
      clear F1 S3 R3 n3 mb
      refine ⟨(by show 1 ≤ sizeLine; decide), fun b mb => ⟨_, _, _, rfl, rfl, upd_same, by decide, by decide, (by show 1 * 8 ≤ sizeLine; decide), fun ou n3 => ?_⟩⟩
      rw [r8]
      have F1 := (Stp.same (τ := τ4) (S := []) (sN (Same.refl H4) mb (o := .lst [V.int 0]))).new n3 (o := .lst (z8.map V.int)) (x := (2, 4, 1))
      have S5 := S4.step F1 (by simp)
      have R5 := R4.st F1 (by simp) (by simp)
      have am := am.st F1 (by simp)
      have ae := ae.st F1 (by simp)
      have as := as.st F1 (by simp)
      have ao : At (tgN τ4 ou (2, 4, 1)) (upd (upd H4 b (.lst [V.int 0])) ou (.lst (z8.map V.int))) ou _ _ := At.mk
      generalize upd (upd H4 b (.lst [V.int 0])) ou (.lst (z8.map V.int)) = H5 at S5 R5 am ae as ao ⊢
      generalize tgN τ4 ou (2, 4, 1) = τ5 at S5 R5 am ae as ao
      clear F1 S4 R4 n3 mb
      refine ⟨(by show 1 ≤ sizeLine; decide), fun b mb => ⟨_, _, _, rfl, rfl, upd_same, by decide, by decide, (by show 1 * 8 ≤ sizeLine; decide), fun l0 n3 => ?_⟩⟩
      rw [r8]
      have F1 := (Stp.same (τ := τ5) (S := []) (sN (Same.refl H5) mb (o := .lst [V.int 0]))).new n3 (o := .lst (z8.map V.int)) (x := (2, 5, 0))
      have S6 := S5.step F1 (by simp)
      have R6 := R5.st F1 (by simp) (by simp)
      have am := am.st F1 (by simp)
      have ae := ae.st F1 (by simp)
      have as := as.st F1 (by simp)
      have ao := ao.st F1 (by simp)
      have al : At (tgN τ5 l0 (2, 5, 0)) (upd (upd H5 b (.lst [V.int 0])) l0 (.lst (z8.map V.int))) l0 _ _ := At.mk
      generalize upd (upd H5 b (.lst [V.int 0])) l0 (.lst (z8.map V.int)) = H6 at S6 R6 am ae as ao al ⊢
      generalize tgN τ5 l0 (2, 5, 0) = τ6 at S6 R6 am ae as ao al
      clear F1 S5 R5 n3 mb
      refine ⟨(by show 1 ≤ sizeLine; decide), fun b mb => ⟨_, _, _, rfl, rfl, upd_same, by decide, by decide, (by show 1 * 8 ≤ sizeLine; decide), fun r0 n3 => ?_⟩⟩
      rw [r8]
      have F1 := (Stp.same (τ := τ6) (S := []) (sN (Same.refl H6) mb (o := .lst [V.int 0]))).new n3 (o := .lst (z8.map V.int)) (x := (2, 4, 0))
      have S7 := S6.step F1 (by simp)
      have R7 := R6.st F1 (by simp) (by simp)
      have am := am.st F1 (by simp)
      have ae := ae.st F1 (by simp)
      have as := as.st F1 (by simp)
      have ao := ao.st F1 (by simp)
      have al := al.st F1 (by simp)
      have a0 : At (tgN τ6 r0 (2, 4, 0)) (upd (upd H6 b (.lst [V.int 0])) r0 (.lst (z8.map V.int))) r0 _ _ := At.mk
      generalize upd (upd H6 b (.lst [V.int 0])) r0 (.lst (z8.map V.int)) = H7 at S7 R7 am ae as ao al a0 ⊢
      generalize tgN τ6 r0 (2, 4, 0) = τ7 at S7 R7 am ae as ao al a0
      clear F1 S6 R6 n3 mb
      refine ⟨(by show 2 ≤ sizeLine; decide), fun p0 n3 => ?_⟩
      have F1 := (Stp.refl (τ := τ7) (S := []) (H := H7)).new n3 (o := .lst [V.ref l0, V.ref r0]) (x := (2, 3, 0))
      have S8 := S7.step F1 (by simp)
      have R8 := R7.st F1 (by simp) (by simp)
      have am := am.st F1 (by simp)
      have ae := ae.st F1 (by simp)
      have as := as.st F1 (by simp)
      have ao := ao.st F1 (by simp)
      have al := al.st F1 (by simp)
      have a0 := a0.st F1 (by simp)
      have ap : At (tgN τ7 p0 (2, 3, 0)) (upd H7 p0 (.lst [V.ref l0, V.ref r0])) p0 _ _ := At.mk
      generalize upd H7 p0 (.lst [V.ref l0, V.ref r0]) = H8 at S8 R8 am ae as ao al a0 ap ⊢
      generalize tgN τ7 p0 (2, 3, 0) = τ8 at S8 R8 am ae as ao al a0 ap
      clear F1 S7 R7 n3
      refine ⟨(by show 1 ≤ sizeLine; decide), fun ro n3 => ?_⟩
      have F1 := (Stp.refl (τ := τ8) (S := []) (H := H8)).new n3 (o := .lst [V.ref p0]) (x := (2, 2, 0))
      have S9 := S8.step F1 (by simp)
      have R9 := R8.st F1 (by simp) (by simp)
      have am := am.st F1 (by simp)
      have ae := ae.st F1 (by simp)
      have as := as.st F1 (by simp)
      have ao := ao.st F1 (by simp)
      have al := al.st F1 (by simp)
      have a0 := a0.st F1 (by simp)
      have ap := ap.st F1 (by simp)
      have ar : At (tgN τ8 ro (2, 2, 0)) (upd H8 ro (.lst [V.ref p0])) ro _ _ := At.mk
      generalize upd H8 ro (.lst [V.ref p0]) = H9 at S9 R9 am ae as ao al a0 ap ar ⊢
      generalize tgN τ8 ro (2, 2, 0) = τ9 at S9 R9 am ae as ao al a0 ap ar
      clear F1 S8 R8 n3
      have F1 := (Stp.refl (τ := τ9) (S := [2]) (H := H9)).put (o := .dK (md5 n me2 sh ou ro)) (mem1 am.2 rfl)
      exact ⟨am.1, md5 n me2 sh ou ro, rfl, (by show 5 ≤ 15; decide), τ9, m, me2, sh, ou, l0, r0, p0, ro, ⟨S9.step F1 (by simp), R9.st F1 (by simp) (by simp), .set am.2, as.put am.2 (by simp), ar.put am.2 (by simp), ap.put am.2 (by simp), a0.put am.2 (by simp), ao.put am.2 (by simp), al.put am.2 (by simp), ae.put am.2 (by simp)⟩, rfl⟩
    clear S1 R1
    rintro σ H1 ⟨τ1, m, me2, sh, ou, l0, r0, p0, ro, J1, rfl⟩
    refine ⟨fun σ H' => ∃ τ x, J7 a.C_Ring τ H' st ca ns t me m (S0 M n) ∧ σ = [some (.ref sa), some (.ref st), some (.int n), some (.int jk), some (.ref me), none, some (.ref t), some (.ref m), x, none, none], ?_, ?_⟩
    · refine ⟨(by show 3 ≤ sizeLine; decide), fun pk nk => ⟨_, rfl, ⟨_, SqL.of upd_same⟩, ?_⟩⟩
      have F1 := (Stp.refl (τ := τ1) (S := []) (H := H1)).new nk (o := .lst [V.str "spills", V.str "fills", V.str "depth"]) (x := (7, 0, 0))
      have J2 : K7 a.C_Ring (tgN τ1 pk (7, 0, 0)) (upd H1 pk (.lst [V.str "spills", V.str "fills", V.str "depth"])) st ca ns t me m me2 sh ou l0 r0 p0 ro (S0 M n) (md5 n me2 sh ou ro) :=
        ⟨J1.s.step F1 (by simp), J1.R.st F1 (by simp) (by simp), J1.m.st F1 (by simp), J1.sh.st F1 (by simp), J1.ro.st F1 (by simp), J1.pr.st F1 (by simp), J1.r0.st F1 (by simp), J1.ou.st F1 (by simp), J1.l0.st F1 (by simp), J1.me.st F1 (by simp)⟩
      refine for_list (K := K) (a := pk) (xs := [V.str "spills", V.str "fills", V.str "depth"]) (fun i σ H' => K7 a.C_Ring (tgN τ1 pk (7, 0, 0)) H' st ca ns t me m me2 sh ou l0 r0 p0 ro (S0 M n) (md5 n me2 sh ou ro ++ ks3.take i) ∧ At (tgN τ1 pk (7, 0, 0)) H' pk (.lst [V.str "spills", V.str "fills", V.str "depth"]) (7, 0, 0) ∧ ∃ x, σ = [some (.ref sa), some (.ref st), some (.int n), some (.int jk), some (.ref me), none, some (.ref t), some (.ref m), x, none, none]) ⟨by rw [List.take_zero, List.append_nil]; exact J2, At.mk, _, rfl⟩ (fun i σ H' _ h => SqL.of h.2.1.1) ?_ ?_
      · rintro i v σ H2 hv ⟨J, hk, x, rfl⟩
        have step : ∀ (z : Str) (kvs : List (Key × V)), putK (md5 n me2 sh ou ro ++ ks3.take i) (.inr z) (.int 0) = kvs → kvs = md5 n me2 sh ou ro ++ ks3.take (i + 1) → K7 a.C_Ring (tgN τ1 pk (7, 0, 0)) (upd H2 m (.dK (putK (md5 n me2 sh ou ro ++ ks3.take i) (.inr z) (.int 0)))) st ca ns t me m me2 sh ou l0 r0 p0 ro (S0 M n) (md5 n me2 sh ou ro ++ ks3.take (i + 1)) := fun z kvs e1 e2 => by
          rw [e1, e2]
          have F1 := (Stp.refl (τ := tgN τ1 pk (7, 0, 0)) (S := [2]) (H := H2)).put (o := .dK (md5 n me2 sh ou ro ++ ks3.take (i + 1))) (mem1 J.m.2 rfl)
          exact ⟨J.s.step F1 (by simp), J.R.st F1 (by simp) (by simp), .set J.m.2, J.sh.put J.m.2 (by simp), J.ro.put J.m.2 (by simp), J.pr.put J.m.2 (by simp), J.r0.put J.m.2 (by simp), J.ou.put J.m.2 (by simp), J.l0.put J.m.2 (by simp), J.me.put J.m.2 (by simp)⟩
        match i, hv with
        | 0, rfl => exact ⟨_, rfl, _, rfl, m, _, rfl, DPut.k J.m.1 (k := .inr "spills") (sz (by show 5 ≤ 900; decide)), step _ _ rfl rfl, hk.put J.m.2 (by simp), _, rfl⟩
        | 1, rfl => exact ⟨_, rfl, _, rfl, m, _, rfl, DPut.k J.m.1 (k := .inr "fills") (sz (by show 6 ≤ 900; decide)), step _ _ rfl rfl, hk.put J.m.2 (by simp), _, rfl⟩
        | 2, rfl => exact ⟨_, rfl, _, rfl, m, _, rfl, DPut.k J.m.1 (k := .inr "depth") (sz (by show 7 ≤ 900; decide)), step _ _ rfl rfl, hk.put J.m.2 (by simp), _, rfl⟩
      · rintro σ H2 ⟨J, hk, x, rfl⟩
        exact ⟨_, x, J.fin m1 m2 n3 n100, rfl⟩
    clear J1
    rintro σ H1 ⟨τ1, x, J1, rfl⟩
    have hn0 : (S0 M n).A.n ≤ 0 := Nat.le_refl 0
    generalize S0 M n = S at J1 hn0
    refine ⟨fun σ H' => ∃ τ S, J7 a.C_Ring τ H' st ca ns t me m S ∧ S.A.n ≤ 0 ∧ σ = [some (.ref sa), some (.ref st), some (.int n), some (.int jk), some (.ref me), none, some (.ref t), some (.ref m), x, none, none], ?_, ?_⟩
    · refine ⟨_, rfl, _, rfl, _, rfl, τ1, t, me, m, S, rfl, J1.R, J1.M, J1.o, fun H2 s2 => ⟨_, rfl, iteF ?_⟩⟩
      have J := J1.same s2
      obtain ⟨len2, hme2, el2, hl2⟩ := J.len
      refine ⟨_, rfl, _, rfl, _, rfl, _, _, rfl, .inl (SqL.of hme2), _, _, rfl, rfl, τ1, t, me, m, S, 14, _, rfl, J.R, J.M, J.o, by decide, fun H3 R3 M3 F3 => ⟨_, rfl, iteF ⟨_, _, J.wr F3 R3 M3, by rw [wr_n]; exact hn0, rfl⟩⟩⟩
    clear J1 hn0
    rintro σ H1 ⟨τ1, S, J1, hn0, rfl⟩
    refine ⟨fun σ H' => ∃ τ S y, J7 a.C_Ring τ H' st ca ns t me m S ∧ S.A.n ≤ 60 ∧ σ = [some (.ref sa), some (.ref st), some (.int n), some (.int jk), some (.ref me), none, some (.ref t), some (.ref m), x, y, none], ?_, ?_⟩
    · refine ⟨_, rfl, τ1, st, ca, ns, 43, rfl, J1.s, by decide, by decide, fun v H2 v0 v1 S2 F2 => ⟨_, _, rfl, rfl, _, rfl, by omega, by omega, ?_⟩⟩
      refine for_range (lo := 0) (n := (8 + v).toNat) (fun i σ H' => ∃ τ S y, J7 a.C_Ring τ H' st ca ns t me m S ∧ S.A.n ≤ i ∧ i ≤ 60 ∧ σ = [some (.ref sa), some (.ref st), some (.int n), some (.int jk), some (.ref me), none, some (.ref t), some (.ref m), x, y, none]) ⟨τ1, S, none, J1.step F2 S2, hn0, by omega, rfl⟩ ?_ ?_
      · rintro i σ H3 hi ⟨τ, S, y, J, hn, hi2, rfl⟩
        refine ⟨_, rfl, _, rfl, _, rfl, _, rfl, τ, st, ca, ns, t, me, m, S, rfl, J, by omega, fun τ' H' S' J' hn' => ⟨_, rfl, iteF ⟨τ', S', _, J', by omega, by omega, rfl⟩⟩⟩
      · rintro σ H3 ⟨τ, S, y, J, hn, hi2, rfl⟩
        exact ⟨τ, S, y, J, by omega, rfl⟩
    clear J1 hn0
    rintro σ H1 ⟨τ1, S, y, J1, hn0, rfl⟩
    refine ⟨_, rfl, by decide, by decide, ?_⟩
    refine for_range (lo := 0) (n := (52 : Int).toNat) (fun i σ H' => ∃ τ S y, J7 a.C_Ring τ H' st ca ns t me m S ∧ S.A.n ≤ 60 ∧ σ = [some (.ref sa), some (.ref st), some (.int n), some (.int jk), some (.ref me), none, some (.ref t), some (.ref m), x, y, none]) ⟨τ1, S, y, J1, hn0, rfl⟩ ?_ ?_
    · clear J1 hn0
      rintro i σ H3 hi ⟨τ, S, y, J, hn, rfl⟩
      refine ⟨_, rfl, _, rfl, _, rfl, τ, t, me, m, S, rfl, J.R, J.M, J.o, fun H2 s2 => ⟨_, rfl, iteF ?_⟩⟩
      have J := J.same s2
      refine ⟨fun σ H' => ∃ τ S, J7 a.C_Ring τ H' st ca ns t me m S ∧ S.A.n ≤ 60 ∧ σ = [some (.ref sa), some (.ref st), some (.int n), some (.int jk), some (.ref me), none, some (.ref t), some (.ref m), x, some (.int (0 + (i : Int))), none], ?_, ?_⟩
      · obtain ⟨me2, sh, ro, pr, lr, rr, N⟩ := id J.M
        refine ⟨_, rfl, m, V.int S.A.n, rfl, DGet.k N.m.1 (k := .inr "depth"), _, _, rfl, rfl, _, rfl, ite3 (fun e => ?_) (fun e => ?_)⟩
        · have e := of_decide_eq_true e
          have hn0 : 0 < S.A.n := by omega
          refine ⟨_, rfl, _, rfl, τ, t, me, m, S, rfl, J.R, J.M, J.o, hn0, fun S' τ' H' ed R' M' F' => ⟨_, rfl, iteF ?_⟩⟩
          obtain ⟨o', n', l'⟩ := J.o.goU hn0 ed
          exact ⟨τ', S', J.go F' R' M' o' l', by omega, rfl⟩
        · exact ⟨τ, S, J, hn, rfl⟩
      clear J hn
      rintro σ H4 ⟨τ, S, J, hn, rfl⟩
      refine ⟨_, rfl, .inl ⟨_, rfl, _, _, rfl, rfl, (by show (0 : Int) < 3; decide), rfl, _, rfl, ite3 (fun e => ?_) (fun e => ?_)⟩⟩
      · obtain ⟨len2, hme2, el2, hl2⟩ := J.len
        have h48 := J.l
        refine ⟨_, rfl, _, rfl, _, rfl, _, rfl, _, _, rfl, .inl (SqL.of hme2), τ, st, ca, ns, _, rfl, J.s, (by rw [List.length_map]; omega), (by rw [List.length_map]; omega), fun z H3 y0 y1 S3 F3 => ⟨τ, t, me, m, S, 30, z, rfl, (J.step F3 S3).R, (J.step F3 S3).M, J.o, by decide, fun H4 R4 M4 F4 => ⟨_, rfl, iteF ⟨τ, _, _, (J.step F3 S3).wr F4 R4 M4, by rw [wr_n]; exact hn, rfl⟩⟩⟩⟩
      · exact ⟨τ, S, _, J, hn, rfl⟩
    clear J1 hn0
    rintro σ H2 ⟨τ, S, y, J, hn, rfl⟩
    refine ⟨_, rfl, _, rfl, _, rfl, τ, t, me, m, S, rfl, J.R, J.M, J.o, fun H2 s2 => ⟨_, rfl, iteT ?_⟩⟩
    have J := J.same s2
    obtain ⟨len2, hme2, el2, hl2⟩ := J.len
    obtain ⟨dx, vw, ab, ar, W⟩ := id J.R
    refine ⟨_, rfl, me, rfl, ⟨_, SqL.of hme2⟩, fun D nD => ?_⟩
    refine lc_list (K := K) (a := me) (xs := S.M.map V.int) (fun i H' => At (tgN τ D (9, 0, 0)) H' me (.lst (S.M.map V.int)) (8, 0, 0) ∧ At (tgN τ D (9, 0, 0)) H' D (.lst ((List.replicate i true).map V.bl)) (9, 0, 0) ∧ i ≤ S.M.length) ⟨W.me.new nD, At.mk, Nat.zero_le _⟩ (fun i H' _ h => SqL.of h.1.1) ?_ ?_
    · rintro i v H3 hv ⟨h1, h2, h3⟩
      rw [List.getElem?_map] at hv
      cases ev : S.M[i]? with
      | none => rw [ev] at hv; cases hv
      | some c =>
        rw [ev] at hv
        obtain rfl := Option.some.inj hv
        have hi : i < S.M.length := (List.getElem?_eq_some_iff.mp ev).1
        refine ⟨rfl, _, rfl, c, rfl, _, h2.1, sz (by rw [List.length_map, List.length_replicate]; omega), h1.put h2.2 (by simp), ?_, hi⟩
        rw [List.replicate_succ', List.map_append]
        exact .set h2.2
    · rintro H3 ⟨h1, h2, h3⟩
      refine ⟨_, List.replicate (S.M.map V.int).length true, rfl, SqL.of h2.1, ?_⟩
      rw [show (List.replicate (S.M.map V.int).length true).all id = true by simp]
      exact q _
end

theorem all_mk {l : PySem.W.OpenLaw} {w : World} {K : PySem.W.Frag} {h : Heap} {mg : Str → Option Value} {fa : Addr} (X : K.In h) (G : h.Ns mainGlobals mg) (hfa : mg "law" = some (.ref fa))
    {C_Ring : Addr} (aC_Ring : PySem.W.nsIn K mainGlobals "Ring" = some (some (.ref C_Ring)))
    (pg_Ring : PySem.W.plainGet K C_Ring Str.empty = true) (hd_Ring : PySem.W.hasDictIn K C_Ring = true) (po_Ring : PySem.W.plainOver K C_Ring = true) (sa_Ring : PySem.W.findIn K (.ref C_Ring) "__setattr__" = some (some (.builtin "object.__setattr__"))) (mk_Ring : PySem.W.makesIn K C_Ring = true) (kC_Ring : PySem.W.keepIn K (.ref C_Ring) = true)
    (n_Ring_depth : PySem.W.findIn K (.ref C_Ring) "depth" = some none)
    (n_Ring_spills : PySem.W.findIn K (.ref C_Ring) "spills" = some none)
    (n_Ring_fills : PySem.W.findIn K (.ref C_Ring) "fills" = some none)
    (n_Ring_resident : PySem.W.findIn K (.ref C_Ring) "resident" = some none)
    (n_Ring__memory : PySem.W.findIn K (.ref C_Ring) "_memory" = some none)
    (n_Ring__most : PySem.W.findIn K (.ref C_Ring) "_most" = some none)
    (n_Ring__view : PySem.W.findIn K (.ref C_Ring) "_view" = some none)
    (n_Ring__above : PySem.W.findIn K (.ref C_Ring) "_above" = some none)
    {C_Fault : Addr} (aC_Fault : PySem.W.nsIn K mainGlobals "Fault" = some (some (.ref C_Fault)))
    (x_Fault : PySem.W.excIn K C_Fault [.type "ValueError", .type "Exception", .type "BaseException", .type "object"] "ValueError.__new__" = true) (kC_Fault : PySem.W.keepIn K (.ref C_Fault) = true) (s1_Fault : PySem.W.subIn K (.ref C_Fault) (.type "BaseException") = some true) (ty_Fault : PySem.W.typeIn K (.ref C_Fault) = some (.type "type")) (ic_Fault : PySem.W.isClsIn K C_Fault = true)
    (h1_Fault : PySem.W.findIn K (.ref C_Fault) "__getattribute__" = some (some (.builtin "BaseException.__getattribute__"))) (h2_Fault : PySem.W.findIn K (.ref C_Fault) "__getattr__" = some none) (h3_Fault : PySem.W.hasDictIn K C_Fault = true) (h4_Fault : PySem.W.findIn K (.ref C_Fault) "__class__" = some (some (.builtin "object.__class__"))) (h5_Fault : PySem.W.specialIn K (.builtin "object.__class__") "__get__" = some (some (.builtin "getset_descriptor.__get__"))) (h6_Fault : PySem.W.takesIn K (.builtin "object.__class__") = some true) (h7_Fault : PySem.W.mroIn K C_Fault (.type "object") = some true)
    {C_AdaError : Addr} (aC_AdaError : PySem.W.nsIn K mainGlobals "AdaError" = some (some (.ref C_AdaError)))
    (x_AdaError : PySem.W.excIn K C_AdaError [.type "ValueError", .type "Exception", .type "BaseException", .type "object"] "ValueError.__new__" = true) (kC_AdaError : PySem.W.keepIn K (.ref C_AdaError) = true) (s1_AdaError : PySem.W.subIn K (.ref C_AdaError) (.type "BaseException") = some true) (ty_AdaError : PySem.W.typeIn K (.ref C_AdaError) = some (.type "type")) (ic_AdaError : PySem.W.isClsIn K C_AdaError = true)
    (e_Fault_Fault : PySem.W.subIn K (.ref C_Fault) (.ref C_Fault) = some true)
    (i_Fault_AdaError : PySem.W.subIn K (.ref C_Fault) (.ref C_AdaError) = some true)
    {f_empty_view : Addr} {oc_empty_view : Value} {od_empty_view an_empty_view : Option Addr} {sl_empty_view : Array (Option Value)} {kV_empty_view dc_empty_view pm_empty_view cd_empty_view ct_empty_view : Value}
    (a_empty_view : PySem.W.nsIn K mainGlobals "empty_view" = some (some (.ref f_empty_view)))
    (l_empty_view : K.lookup f_empty_view = some ⟨oc_empty_view, od_empty_view, .func (PySem.W.fnOf "empty_view" "empty_view" (defArgs s_empty_view) (defBody s_empty_view) (defScope s_empty_view) .none kV_empty_view dc_empty_view pm_empty_view an_empty_view cd_empty_view ct_empty_view), sl_empty_view⟩)
    (c_empty_view : PySem.W.codeIn K cd_empty_view "empty_view" = true)
    (k_empty_view : PySem.W.keepIn K (.ref f_empty_view) = true)
    {f_locals_and_ins : Addr} {oc_locals_and_ins : Value} {od_locals_and_ins an_locals_and_ins : Option Addr} {sl_locals_and_ins : Array (Option Value)} {kV_locals_and_ins dc_locals_and_ins pm_locals_and_ins cd_locals_and_ins ct_locals_and_ins : Value}
    (a_locals_and_ins : PySem.W.nsIn K mainGlobals "locals_and_ins" = some (some (.ref f_locals_and_ins)))
    (l_locals_and_ins : K.lookup f_locals_and_ins = some ⟨oc_locals_and_ins, od_locals_and_ins, .func (PySem.W.fnOf "locals_and_ins" "locals_and_ins" (defArgs s_locals_and_ins) (defBody s_locals_and_ins) (defScope s_locals_and_ins) .none kV_locals_and_ins dc_locals_and_ins pm_locals_and_ins an_locals_and_ins cd_locals_and_ins ct_locals_and_ins), sl_locals_and_ins⟩)
    (c_locals_and_ins : PySem.W.codeIn K cd_locals_and_ins "locals_and_ins" = true)
    (k_locals_and_ins : PySem.W.keepIn K (.ref f_locals_and_ins) = true)
    {f_view_below : Addr} {oc_view_below : Value} {od_view_below an_view_below : Option Addr} {sl_view_below : Array (Option Value)} {kV_view_below dc_view_below pm_view_below cd_view_below ct_view_below : Value}
    (a_view_below : PySem.W.nsIn K mainGlobals "view_below" = some (some (.ref f_view_below)))
    (l_view_below : K.lookup f_view_below = some ⟨oc_view_below, od_view_below, .func (PySem.W.fnOf "view_below" "view_below" (defArgs s_view_below) (defBody s_view_below) (defScope s_view_below) .none kV_view_below dc_view_below pm_view_below an_view_below cd_view_below ct_view_below), sl_view_below⟩)
    (c_view_below : PySem.W.codeIn K cd_view_below "view_below" = true)
    (k_view_below : PySem.W.keepIn K (.ref f_view_below) = true)
    {f_view_above : Addr} {oc_view_above : Value} {od_view_above an_view_above : Option Addr} {sl_view_above : Array (Option Value)} {kV_view_above dc_view_above pm_view_above cd_view_above ct_view_above : Value}
    (a_view_above : PySem.W.nsIn K mainGlobals "view_above" = some (some (.ref f_view_above)))
    (l_view_above : K.lookup f_view_above = some ⟨oc_view_above, od_view_above, .func (PySem.W.fnOf "view_above" "view_above" (defArgs s_view_above) (defBody s_view_above) (defScope s_view_above) .none kV_view_above dc_view_above pm_view_above an_view_above cd_view_above ct_view_above), sl_view_above⟩)
    (c_view_above : PySem.W.codeIn K cd_view_above "view_above" = true)
    (k_view_above : PySem.W.keepIn K (.ref f_view_above) = true)
    {f_Ring___init__ : Addr} {oc_Ring___init__ : Value} {od_Ring___init__ an_Ring___init__ : Option Addr} {sl_Ring___init__ : Array (Option Value)} {kV_Ring___init__ dc_Ring___init__ pm_Ring___init__ cd_Ring___init__ ct_Ring___init__ : Value}
    (a_Ring___init__ : PySem.W.findIn K (.ref C_Ring) "__init__" = some (some (.ref f_Ring___init__)))
    (i_Ring___init__ : PySem.W.isFn K (.ref f_Ring___init__) = true)
    (l_Ring___init__ : K.lookup f_Ring___init__ = some ⟨oc_Ring___init__, od_Ring___init__, .func (PySem.W.fnOf "__init__" "Ring.__init__" (defArgs s_Ring___init__) (defBody s_Ring___init__) (defScope s_Ring___init__) .none kV_Ring___init__ dc_Ring___init__ pm_Ring___init__ an_Ring___init__ cd_Ring___init__ ct_Ring___init__), sl_Ring___init__⟩)
    (c_Ring___init__ : PySem.W.codeIn K cd_Ring___init__ "Ring.__init__" = true)
    (k_Ring___init__ : PySem.W.keepIn K (.ref f_Ring___init__) = true)
    {f_Ring_read : Addr} {oc_Ring_read : Value} {od_Ring_read an_Ring_read : Option Addr} {sl_Ring_read : Array (Option Value)} {kV_Ring_read dc_Ring_read pm_Ring_read cd_Ring_read ct_Ring_read : Value}
    (a_Ring_read : PySem.W.findIn K (.ref C_Ring) "read" = some (some (.ref f_Ring_read)))
    (i_Ring_read : PySem.W.isFn K (.ref f_Ring_read) = true)
    (l_Ring_read : K.lookup f_Ring_read = some ⟨oc_Ring_read, od_Ring_read, .func (PySem.W.fnOf "read" "Ring.read" (defArgs s_Ring_read) (defBody s_Ring_read) (defScope s_Ring_read) .none kV_Ring_read dc_Ring_read pm_Ring_read an_Ring_read cd_Ring_read ct_Ring_read), sl_Ring_read⟩)
    (c_Ring_read : PySem.W.codeIn K cd_Ring_read "Ring.read" = true)
    (k_Ring_read : PySem.W.keepIn K (.ref f_Ring_read) = true)
    {f_Ring_write : Addr} {oc_Ring_write : Value} {od_Ring_write an_Ring_write : Option Addr} {sl_Ring_write : Array (Option Value)} {kV_Ring_write dc_Ring_write pm_Ring_write cd_Ring_write ct_Ring_write : Value}
    (a_Ring_write : PySem.W.findIn K (.ref C_Ring) "write" = some (some (.ref f_Ring_write)))
    (i_Ring_write : PySem.W.isFn K (.ref f_Ring_write) = true)
    (l_Ring_write : K.lookup f_Ring_write = some ⟨oc_Ring_write, od_Ring_write, .func (PySem.W.fnOf "write" "Ring.write" (defArgs s_Ring_write) (defBody s_Ring_write) (defScope s_Ring_write) .none kV_Ring_write dc_Ring_write pm_Ring_write an_Ring_write cd_Ring_write ct_Ring_write), sl_Ring_write⟩)
    (c_Ring_write : PySem.W.codeIn K cd_Ring_write "Ring.write" = true)
    (k_Ring_write : PySem.W.keepIn K (.ref f_Ring_write) = true)
    {f_Ring_shift_down : Addr} {oc_Ring_shift_down : Value} {od_Ring_shift_down an_Ring_shift_down : Option Addr} {sl_Ring_shift_down : Array (Option Value)} {kV_Ring_shift_down dc_Ring_shift_down pm_Ring_shift_down cd_Ring_shift_down ct_Ring_shift_down : Value}
    (a_Ring_shift_down : PySem.W.findIn K (.ref C_Ring) "shift_down" = some (some (.ref f_Ring_shift_down)))
    (i_Ring_shift_down : PySem.W.isFn K (.ref f_Ring_shift_down) = true)
    (l_Ring_shift_down : K.lookup f_Ring_shift_down = some ⟨oc_Ring_shift_down, od_Ring_shift_down, .func (PySem.W.fnOf "shift_down" "Ring.shift_down" (defArgs s_Ring_shift_down) (defBody s_Ring_shift_down) (defScope s_Ring_shift_down) .none kV_Ring_shift_down dc_Ring_shift_down pm_Ring_shift_down an_Ring_shift_down cd_Ring_shift_down ct_Ring_shift_down), sl_Ring_shift_down⟩)
    (c_Ring_shift_down : PySem.W.codeIn K cd_Ring_shift_down "Ring.shift_down" = true)
    (k_Ring_shift_down : PySem.W.keepIn K (.ref f_Ring_shift_down) = true)
    {f_Ring_shift_up : Addr} {oc_Ring_shift_up : Value} {od_Ring_shift_up an_Ring_shift_up : Option Addr} {sl_Ring_shift_up : Array (Option Value)} {kV_Ring_shift_up dc_Ring_shift_up pm_Ring_shift_up cd_Ring_shift_up ct_Ring_shift_up : Value}
    (a_Ring_shift_up : PySem.W.findIn K (.ref C_Ring) "shift_up" = some (some (.ref f_Ring_shift_up)))
    (i_Ring_shift_up : PySem.W.isFn K (.ref f_Ring_shift_up) = true)
    (l_Ring_shift_up : K.lookup f_Ring_shift_up = some ⟨oc_Ring_shift_up, od_Ring_shift_up, .func (PySem.W.fnOf "shift_up" "Ring.shift_up" (defArgs s_Ring_shift_up) (defBody s_Ring_shift_up) (defScope s_Ring_shift_up) .none kV_Ring_shift_up dc_Ring_shift_up pm_Ring_shift_up an_Ring_shift_up cd_Ring_shift_up ct_Ring_shift_up), sl_Ring_shift_up⟩)
    (c_Ring_shift_up : PySem.W.codeIn K cd_Ring_shift_up "Ring.shift_up" = true)
    (k_Ring_shift_up : PySem.W.keepIn K (.ref f_Ring_shift_up) = true)
    {f_Ring_blocked_down : Addr} {oc_Ring_blocked_down : Value} {od_Ring_blocked_down an_Ring_blocked_down : Option Addr} {sl_Ring_blocked_down : Array (Option Value)} {kV_Ring_blocked_down dc_Ring_blocked_down pm_Ring_blocked_down cd_Ring_blocked_down ct_Ring_blocked_down : Value}
    (a_Ring_blocked_down : PySem.W.findIn K (.ref C_Ring) "blocked_down" = some (some (.ref f_Ring_blocked_down)))
    (i_Ring_blocked_down : PySem.W.isFn K (.ref f_Ring_blocked_down) = true)
    (l_Ring_blocked_down : K.lookup f_Ring_blocked_down = some ⟨oc_Ring_blocked_down, od_Ring_blocked_down, .func (PySem.W.fnOf "blocked_down" "Ring.blocked_down" (defArgs s_Ring_blocked_down) (defBody s_Ring_blocked_down) (defScope s_Ring_blocked_down) .none kV_Ring_blocked_down dc_Ring_blocked_down pm_Ring_blocked_down an_Ring_blocked_down cd_Ring_blocked_down ct_Ring_blocked_down), sl_Ring_blocked_down⟩)
    (c_Ring_blocked_down : PySem.W.codeIn K cd_Ring_blocked_down "Ring.blocked_down" = true)
    (k_Ring_blocked_down : PySem.W.keepIn K (.ref f_Ring_blocked_down) = true)
    {f_Ring_blocked_up : Addr} {oc_Ring_blocked_up : Value} {od_Ring_blocked_up an_Ring_blocked_up : Option Addr} {sl_Ring_blocked_up : Array (Option Value)} {kV_Ring_blocked_up dc_Ring_blocked_up pm_Ring_blocked_up cd_Ring_blocked_up ct_Ring_blocked_up : Value}
    (a_Ring_blocked_up : PySem.W.findIn K (.ref C_Ring) "blocked_up" = some (some (.ref f_Ring_blocked_up)))
    (i_Ring_blocked_up : PySem.W.isFn K (.ref f_Ring_blocked_up) = true)
    (l_Ring_blocked_up : K.lookup f_Ring_blocked_up = some ⟨oc_Ring_blocked_up, od_Ring_blocked_up, .func (PySem.W.fnOf "blocked_up" "Ring.blocked_up" (defArgs s_Ring_blocked_up) (defBody s_Ring_blocked_up) (defScope s_Ring_blocked_up) .none kV_Ring_blocked_up dc_Ring_blocked_up pm_Ring_blocked_up an_Ring_blocked_up cd_Ring_blocked_up ct_Ring_blocked_up), sl_Ring_blocked_up⟩)
    (c_Ring_blocked_up : PySem.W.codeIn K cd_Ring_blocked_up "Ring.blocked_up" = true)
    (k_Ring_blocked_up : PySem.W.keepIn K (.ref f_Ring_blocked_up) = true)
    {f_Ring__spill : Addr} {oc_Ring__spill : Value} {od_Ring__spill an_Ring__spill : Option Addr} {sl_Ring__spill : Array (Option Value)} {kV_Ring__spill dc_Ring__spill pm_Ring__spill cd_Ring__spill ct_Ring__spill : Value}
    (a_Ring__spill : PySem.W.findIn K (.ref C_Ring) "_spill" = some (some (.ref f_Ring__spill)))
    (i_Ring__spill : PySem.W.isFn K (.ref f_Ring__spill) = true)
    (l_Ring__spill : K.lookup f_Ring__spill = some ⟨oc_Ring__spill, od_Ring__spill, .func (PySem.W.fnOf "_spill" "Ring._spill" (defArgs s_Ring__spill) (defBody s_Ring__spill) (defScope s_Ring__spill) .none kV_Ring__spill dc_Ring__spill pm_Ring__spill an_Ring__spill cd_Ring__spill ct_Ring__spill), sl_Ring__spill⟩)
    (c_Ring__spill : PySem.W.codeIn K cd_Ring__spill "Ring._spill" = true)
    (k_Ring__spill : PySem.W.keepIn K (.ref f_Ring__spill) = true)
    {f_Ring__fill : Addr} {oc_Ring__fill : Value} {od_Ring__fill an_Ring__fill : Option Addr} {sl_Ring__fill : Array (Option Value)} {kV_Ring__fill dc_Ring__fill pm_Ring__fill cd_Ring__fill ct_Ring__fill : Value}
    (a_Ring__fill : PySem.W.findIn K (.ref C_Ring) "_fill" = some (some (.ref f_Ring__fill)))
    (i_Ring__fill : PySem.W.isFn K (.ref f_Ring__fill) = true)
    (l_Ring__fill : K.lookup f_Ring__fill = some ⟨oc_Ring__fill, od_Ring__fill, .func (PySem.W.fnOf "_fill" "Ring._fill" (defArgs s_Ring__fill) (defBody s_Ring__fill) (defScope s_Ring__fill) .none kV_Ring__fill dc_Ring__fill pm_Ring__fill an_Ring__fill cd_Ring__fill ct_Ring__fill), sl_Ring__fill⟩)
    (c_Ring__fill : PySem.W.codeIn K cd_Ring__fill "Ring._fill" = true)
    (k_Ring__fill : PySem.W.keepIn K (.ref f_Ring__fill) = true)
    {f_Ring__save_area : Addr} {oc_Ring__save_area : Value} {od_Ring__save_area an_Ring__save_area : Option Addr} {sl_Ring__save_area : Array (Option Value)} {kV_Ring__save_area dc_Ring__save_area pm_Ring__save_area cd_Ring__save_area ct_Ring__save_area : Value}
    (a_Ring__save_area : PySem.W.findIn K (.ref C_Ring) "_save_area" = some (some (.ref f_Ring__save_area)))
    (i_Ring__save_area : PySem.W.isFn K (.ref f_Ring__save_area) = true)
    (l_Ring__save_area : K.lookup f_Ring__save_area = some ⟨oc_Ring__save_area, od_Ring__save_area, .func (PySem.W.fnOf "_save_area" "Ring._save_area" (defArgs s_Ring__save_area) (defBody s_Ring__save_area) (defScope s_Ring__save_area) .none kV_Ring__save_area dc_Ring__save_area pm_Ring__save_area an_Ring__save_area cd_Ring__save_area ct_Ring__save_area), sl_Ring__save_area⟩)
    (c_Ring__save_area : PySem.W.codeIn K cd_Ring__save_area "Ring._save_area" = true)
    (k_Ring__save_area : PySem.W.keepIn K (.ref f_Ring__save_area) = true)
    {f_law_mixed : Addr} {oc_law_mixed : Value} {od_law_mixed an_law_mixed : Option Addr} {sl_law_mixed : Array (Option Value)} {kV_law_mixed dc_law_mixed pm_law_mixed cd_law_mixed ct_law_mixed : Value}
    (a_law_mixed : PySem.W.nsIn K mainGlobals "_law_mixed" = some (some (.ref f_law_mixed)))
    (l_law_mixed : K.lookup f_law_mixed = some ⟨oc_law_mixed, od_law_mixed, .func (PySem.W.fnOf "_law_mixed" "_law_mixed" (defArgs s_law_mixed) (defBody s_law_mixed) (defScope s_law_mixed) .none kV_law_mixed dc_law_mixed pm_law_mixed an_law_mixed cd_law_mixed ct_law_mixed), sl_law_mixed⟩)
    (c_law_mixed : PySem.W.codeIn K cd_law_mixed "_law_mixed" = true)
    (k_law_mixed : PySem.W.keepIn K (.ref f_law_mixed) = true)
    {f_law_state : Addr} {oc_law_state : Value} {od_law_state an_law_state : Option Addr} {sl_law_state : Array (Option Value)} {kV_law_state dc_law_state pm_law_state cd_law_state ct_law_state : Value}
    (a_law_state : PySem.W.nsIn K mainGlobals "_law_state" = some (some (.ref f_law_state)))
    (l_law_state : K.lookup f_law_state = some ⟨oc_law_state, od_law_state, .func (PySem.W.fnOf "_law_state" "_law_state" (defArgs s_law_state) (defBody s_law_state) (defScope s_law_state) .none kV_law_state dc_law_state pm_law_state an_law_state cd_law_state ct_law_state), sl_law_state⟩)
    (c_law_state : PySem.W.codeIn K cd_law_state "_law_state" = true)
    (k_law_state : PySem.W.keepIn K (.ref f_law_state) = true)
    {f_law_draw : Addr} {oc_law_draw : Value} {od_law_draw an_law_draw : Option Addr} {sl_law_draw : Array (Option Value)} {kV_law_draw dc_law_draw pm_law_draw cd_law_draw ct_law_draw : Value}
    (a_law_draw : PySem.W.nsIn K mainGlobals "_law_draw" = some (some (.ref f_law_draw)))
    (l_law_draw : K.lookup f_law_draw = some ⟨oc_law_draw, od_law_draw, .func (PySem.W.fnOf "_law_draw" "_law_draw" (defArgs s_law_draw) (defBody s_law_draw) (defScope s_law_draw) .none kV_law_draw dc_law_draw pm_law_draw an_law_draw cd_law_draw ct_law_draw), sl_law_draw⟩)
    (c_law_draw : PySem.W.codeIn K cd_law_draw "_law_draw" = true)
    (k_law_draw : PySem.W.keepIn K (.ref f_law_draw) = true)
    {f_law_is_integer : Addr} {oc_law_is_integer : Value} {od_law_is_integer an_law_is_integer : Option Addr} {sl_law_is_integer : Array (Option Value)} {kV_law_is_integer dc_law_is_integer pm_law_is_integer cd_law_is_integer ct_law_is_integer : Value}
    (a_law_is_integer : PySem.W.nsIn K mainGlobals "_law_is_integer" = some (some (.ref f_law_is_integer)))
    (l_law_is_integer : K.lookup f_law_is_integer = some ⟨oc_law_is_integer, od_law_is_integer, .func (PySem.W.fnOf "_law_is_integer" "_law_is_integer" (defArgs s_law_is_integer) (defBody s_law_is_integer) (defScope s_law_is_integer) .none kV_law_is_integer dc_law_is_integer pm_law_is_integer an_law_is_integer cd_law_is_integer ct_law_is_integer), sl_law_is_integer⟩)
    (c_law_is_integer : PySem.W.codeIn K cd_law_is_integer "_law_is_integer" = true)
    (k_law_is_integer : PySem.W.keepIn K (.ref f_law_is_integer) = true)
    {f_law_word : Addr} {oc_law_word : Value} {od_law_word an_law_word : Option Addr} {sl_law_word : Array (Option Value)} {kV_law_word dc_law_word pm_law_word cd_law_word ct_law_word : Value}
    (a_law_word : PySem.W.nsIn K mainGlobals "_law_word" = some (some (.ref f_law_word)))
    (l_law_word : K.lookup f_law_word = some ⟨oc_law_word, od_law_word, .func (PySem.W.fnOf "_law_word" "_law_word" (defArgs s_law_word) (defBody s_law_word) (defScope s_law_word) .none kV_law_word dc_law_word pm_law_word an_law_word cd_law_word ct_law_word), sl_law_word⟩)
    (c_law_word : PySem.W.codeIn K cd_law_word "_law_word" = true)
    (k_law_word : PySem.W.keepIn K (.ref f_law_word) = true)
    {f_law_spot : Addr} {oc_law_spot : Value} {od_law_spot an_law_spot : Option Addr} {sl_law_spot : Array (Option Value)} {kV_law_spot dc_law_spot pm_law_spot cd_law_spot ct_law_spot : Value}
    (a_law_spot : PySem.W.nsIn K mainGlobals "_law_spot" = some (some (.ref f_law_spot)))
    (l_law_spot : K.lookup f_law_spot = some ⟨oc_law_spot, od_law_spot, .func (PySem.W.fnOf "_law_spot" "_law_spot" (defArgs s_law_spot) (defBody s_law_spot) (defScope s_law_spot) .none kV_law_spot dc_law_spot pm_law_spot an_law_spot cd_law_spot ct_law_spot), sl_law_spot⟩)
    (c_law_spot : PySem.W.codeIn K cd_law_spot "_law_spot" = true)
    (k_law_spot : PySem.W.keepIn K (.ref f_law_spot) = true)
    {f_law_get : Addr} {oc_law_get : Value} {od_law_get an_law_get : Option Addr} {sl_law_get : Array (Option Value)} {kV_law_get dc_law_get pm_law_get cd_law_get ct_law_get : Value}
    (a_law_get : PySem.W.nsIn K mainGlobals "_law_get" = some (some (.ref f_law_get)))
    (l_law_get : K.lookup f_law_get = some ⟨oc_law_get, od_law_get, .func (PySem.W.fnOf "_law_get" "_law_get" (defArgs s_law_get) (defBody s_law_get) (defScope s_law_get) .none kV_law_get dc_law_get pm_law_get an_law_get cd_law_get ct_law_get), sl_law_get⟩)
    (c_law_get : PySem.W.codeIn K cd_law_get "_law_get" = true)
    (k_law_get : PySem.W.keepIn K (.ref f_law_get) = true)
    {f_law_set : Addr} {oc_law_set : Value} {od_law_set an_law_set : Option Addr} {sl_law_set : Array (Option Value)} {kV_law_set dc_law_set pm_law_set cd_law_set ct_law_set : Value}
    (a_law_set : PySem.W.nsIn K mainGlobals "_law_set" = some (some (.ref f_law_set)))
    (l_law_set : K.lookup f_law_set = some ⟨oc_law_set, od_law_set, .func (PySem.W.fnOf "_law_set" "_law_set" (defArgs s_law_set) (defBody s_law_set) (defScope s_law_set) .none kV_law_set dc_law_set pm_law_set an_law_set cd_law_set ct_law_set), sl_law_set⟩)
    (c_law_set : PySem.W.codeIn K cd_law_set "_law_set" = true)
    (k_law_set : PySem.W.keepIn K (.ref f_law_set) = true)
    {f_law_add : Addr} {oc_law_add : Value} {od_law_add an_law_add : Option Addr} {sl_law_add : Array (Option Value)} {kV_law_add dc_law_add pm_law_add cd_law_add ct_law_add : Value}
    (a_law_add : PySem.W.nsIn K mainGlobals "_law_add" = some (some (.ref f_law_add)))
    (l_law_add : K.lookup f_law_add = some ⟨oc_law_add, od_law_add, .func (PySem.W.fnOf "_law_add" "_law_add" (defArgs s_law_add) (defBody s_law_add) (defScope s_law_add) .none kV_law_add dc_law_add pm_law_add an_law_add cd_law_add ct_law_add), sl_law_add⟩)
    (c_law_add : PySem.W.codeIn K cd_law_add "_law_add" = true)
    (k_law_add : PySem.W.keepIn K (.ref f_law_add) = true)
    {f_law_lies : Addr} {oc_law_lies : Value} {od_law_lies an_law_lies : Option Addr} {sl_law_lies : Array (Option Value)} {kV_law_lies dc_law_lies pm_law_lies cd_law_lies ct_law_lies : Value}
    (a_law_lies : PySem.W.nsIn K mainGlobals "_law_lies" = some (some (.ref f_law_lies)))
    (l_law_lies : K.lookup f_law_lies = some ⟨oc_law_lies, od_law_lies, .func (PySem.W.fnOf "_law_lies" "_law_lies" (defArgs s_law_lies) (defBody s_law_lies) (defScope s_law_lies) .none kV_law_lies dc_law_lies pm_law_lies an_law_lies cd_law_lies ct_law_lies), sl_law_lies⟩)
    (c_law_lies : PySem.W.codeIn K cd_law_lies "_law_lies" = true)
    (k_law_lies : PySem.W.keepIn K (.ref f_law_lies) = true)
    {f_law_ring_down : Addr} {oc_law_ring_down : Value} {od_law_ring_down an_law_ring_down : Option Addr} {sl_law_ring_down : Array (Option Value)} {kV_law_ring_down dc_law_ring_down pm_law_ring_down cd_law_ring_down ct_law_ring_down : Value}
    (a_law_ring_down : PySem.W.nsIn K mainGlobals "_law_ring_down" = some (some (.ref f_law_ring_down)))
    (l_law_ring_down : K.lookup f_law_ring_down = some ⟨oc_law_ring_down, od_law_ring_down, .func (PySem.W.fnOf "_law_ring_down" "_law_ring_down" (defArgs s_law_ring_down) (defBody s_law_ring_down) (defScope s_law_ring_down) .none kV_law_ring_down dc_law_ring_down pm_law_ring_down an_law_ring_down cd_law_ring_down ct_law_ring_down), sl_law_ring_down⟩)
    (c_law_ring_down : PySem.W.codeIn K cd_law_ring_down "_law_ring_down" = true)
    (k_law_ring_down : PySem.W.keepIn K (.ref f_law_ring_down) = true)
    {f_law_ring_up : Addr} {oc_law_ring_up : Value} {od_law_ring_up an_law_ring_up : Option Addr} {sl_law_ring_up : Array (Option Value)} {kV_law_ring_up dc_law_ring_up pm_law_ring_up cd_law_ring_up ct_law_ring_up : Value}
    (a_law_ring_up : PySem.W.nsIn K mainGlobals "_law_ring_up" = some (some (.ref f_law_ring_up)))
    (l_law_ring_up : K.lookup f_law_ring_up = some ⟨oc_law_ring_up, od_law_ring_up, .func (PySem.W.fnOf "_law_ring_up" "_law_ring_up" (defArgs s_law_ring_up) (defBody s_law_ring_up) (defScope s_law_ring_up) .none kV_law_ring_up dc_law_ring_up pm_law_ring_up an_law_ring_up cd_law_ring_up ct_law_ring_up), sl_law_ring_up⟩)
    (c_law_ring_up : PySem.W.codeIn K cd_law_ring_up "_law_ring_up" = true)
    (k_law_ring_up : PySem.W.keepIn K (.ref f_law_ring_up) = true)
    {f_law_goes_down : Addr} {oc_law_goes_down : Value} {od_law_goes_down an_law_goes_down : Option Addr} {sl_law_goes_down : Array (Option Value)} {kV_law_goes_down dc_law_goes_down pm_law_goes_down cd_law_goes_down ct_law_goes_down : Value}
    (a_law_goes_down : PySem.W.nsIn K mainGlobals "_law_goes_down" = some (some (.ref f_law_goes_down)))
    (l_law_goes_down : K.lookup f_law_goes_down = some ⟨oc_law_goes_down, od_law_goes_down, .func (PySem.W.fnOf "_law_goes_down" "_law_goes_down" (defArgs s_law_goes_down) (defBody s_law_goes_down) (defScope s_law_goes_down) .none kV_law_goes_down dc_law_goes_down pm_law_goes_down an_law_goes_down cd_law_goes_down ct_law_goes_down), sl_law_goes_down⟩)
    (c_law_goes_down : PySem.W.codeIn K cd_law_goes_down "_law_goes_down" = true)
    (k_law_goes_down : PySem.W.keepIn K (.ref f_law_goes_down) = true)
    {f_law_goes_up : Addr} {oc_law_goes_up : Value} {od_law_goes_up an_law_goes_up : Option Addr} {sl_law_goes_up : Array (Option Value)} {kV_law_goes_up dc_law_goes_up pm_law_goes_up cd_law_goes_up ct_law_goes_up : Value}
    (a_law_goes_up : PySem.W.nsIn K mainGlobals "_law_goes_up" = some (some (.ref f_law_goes_up)))
    (l_law_goes_up : K.lookup f_law_goes_up = some ⟨oc_law_goes_up, od_law_goes_up, .func (PySem.W.fnOf "_law_goes_up" "_law_goes_up" (defArgs s_law_goes_up) (defBody s_law_goes_up) (defScope s_law_goes_up) .none kV_law_goes_up dc_law_goes_up pm_law_goes_up an_law_goes_up cd_law_goes_up ct_law_goes_up), sl_law_goes_up⟩)
    (c_law_goes_up : PySem.W.codeIn K cd_law_goes_up "_law_goes_up" = true)
    (k_law_goes_up : PySem.W.keepIn K (.ref f_law_goes_up) = true)
    {f_law_alike : Addr} {oc_law_alike : Value} {od_law_alike an_law_alike : Option Addr} {sl_law_alike : Array (Option Value)} {kV_law_alike dc_law_alike pm_law_alike cd_law_alike ct_law_alike : Value}
    (a_law_alike : PySem.W.nsIn K mainGlobals "_law_alike" = some (some (.ref f_law_alike)))
    (l_law_alike : K.lookup f_law_alike = some ⟨oc_law_alike, od_law_alike, .func (PySem.W.fnOf "_law_alike" "_law_alike" (defArgs s_law_alike) (defBody s_law_alike) (defScope s_law_alike) .none kV_law_alike dc_law_alike pm_law_alike an_law_alike cd_law_alike ct_law_alike), sl_law_alike⟩)
    (c_law_alike : PySem.W.codeIn K cd_law_alike "_law_alike" = true)
    (k_law_alike : PySem.W.keepIn K (.ref f_law_alike) = true)
    {f_law_write : Addr} {oc_law_write : Value} {od_law_write an_law_write : Option Addr} {sl_law_write : Array (Option Value)} {kV_law_write dc_law_write pm_law_write cd_law_write ct_law_write : Value}
    (a_law_write : PySem.W.nsIn K mainGlobals "_law_write" = some (some (.ref f_law_write)))
    (l_law_write : K.lookup f_law_write = some ⟨oc_law_write, od_law_write, .func (PySem.W.fnOf "_law_write" "_law_write" (defArgs s_law_write) (defBody s_law_write) (defScope s_law_write) .none kV_law_write dc_law_write pm_law_write an_law_write cd_law_write ct_law_write), sl_law_write⟩)
    (c_law_write : PySem.W.codeIn K cd_law_write "_law_write" = true)
    (k_law_write : PySem.W.keepIn K (.ref f_law_write) = true)
    {f_law_deed : Addr} {oc_law_deed : Value} {od_law_deed an_law_deed : Option Addr} {sl_law_deed : Array (Option Value)} {kV_law_deed dc_law_deed pm_law_deed cd_law_deed ct_law_deed : Value}
    (a_law_deed : PySem.W.nsIn K mainGlobals "_law_deed" = some (some (.ref f_law_deed)))
    (l_law_deed : K.lookup f_law_deed = some ⟨oc_law_deed, od_law_deed, .func (PySem.W.fnOf "_law_deed" "_law_deed" (defArgs s_law_deed) (defBody s_law_deed) (defScope s_law_deed) .none kV_law_deed dc_law_deed pm_law_deed an_law_deed cd_law_deed ct_law_deed), sl_law_deed⟩)
    (c_law_deed : PySem.W.codeIn K cd_law_deed "_law_deed" = true)
    (k_law_deed : PySem.W.keepIn K (.ref f_law_deed) = true)
    {f_law : Addr} {oc_law : Value} {od_law an_law : Option Addr} {sl_law : Array (Option Value)} {kV_law dc_law pm_law cd_law ct_law : Value}
    (a_law : PySem.W.nsIn K mainGlobals "law" = some (some (.ref f_law)))
    (l_law : K.lookup f_law = some ⟨oc_law, od_law, .func (PySem.W.fnOf "law" "law" (defArgs s_law) (defBody s_law) (defScope s_law) .none kV_law dc_law pm_law an_law cd_law ct_law), sl_law⟩)
    (c_law : PySem.W.codeIn K cd_law "law" = true)
    (k_law : PySem.W.keepIn K (.ref f_law) = true)
    {t_FIRST_IN : Tok} (a_FIRST_IN : PySem.W.nsIn K mainGlobals "FIRST_IN" = some (some (.int (24) t_FIRST_IN)))
    {t_FIRST_LOCAL : Tok} (a_FIRST_LOCAL : PySem.W.nsIn K mainGlobals "FIRST_LOCAL" = some (some (.int (16) t_FIRST_LOCAL)))
    {t_FIRST_OUT : Tok} (a_FIRST_OUT : PySem.W.nsIn K mainGlobals "FIRST_OUT" = some (some (.int (8) t_FIRST_OUT)))
    {t_POINTER : Tok} (a_POINTER : PySem.W.nsIn K mainGlobals "POINTER" = some (some (.int (14) t_POINTER)))
    {t_SAVED : Tok} (a_SAVED : PySem.W.nsIn K mainGlobals "SAVED" = some (some (.int (16) t_SAVED)))
    (z_abs : PySem.W.nsIn K mainGlobals "abs" = some none)
    (z_all : PySem.W.nsIn K mainGlobals "all" = some none)
    (z_bool : PySem.W.nsIn K mainGlobals "bool" = some none)
    (z_int : PySem.W.nsIn K mainGlobals "int" = some none)
    (z_isinstance : PySem.W.nsIn K mainGlobals "isinstance" = some none)
    (z_len : PySem.W.nsIn K mainGlobals "len" = some none)
    (z_list : PySem.W.nsIn K mainGlobals "list" = some none)
    (z_max : PySem.W.nsIn K mainGlobals "max" = some none)
    (z_range : PySem.W.nsIn K mainGlobals "range" = some none)
    (z_sum : PySem.W.nsIn K mainGlobals "sum" = some none) :
    ∃ fd : FuncData, (∀ (s : Shared) (v : Value), BindsTo s fd ⟨[v], []⟩ [("script", v)]) ∧ ∀ base : Heap, K.In base → base.Ns mainGlobals mg → FnOk l.prog w K mg base CX0 6 fa fd ["script"] (spLaw K) := by
  have e := hfa.symm.trans (PySem.W.mg_of X G a_law)
  cases e
  let a : Ad := { f_empty_view := f_empty_view, d_empty_view := PySem.W.fnOf "empty_view" "empty_view" (defArgs s_empty_view) (defBody s_empty_view) (defScope s_empty_view) .none kV_empty_view dc_empty_view pm_empty_view an_empty_view cd_empty_view ct_empty_view, f_locals_and_ins := f_locals_and_ins, d_locals_and_ins := PySem.W.fnOf "locals_and_ins" "locals_and_ins" (defArgs s_locals_and_ins) (defBody s_locals_and_ins) (defScope s_locals_and_ins) .none kV_locals_and_ins dc_locals_and_ins pm_locals_and_ins an_locals_and_ins cd_locals_and_ins ct_locals_and_ins, f_view_below := f_view_below, d_view_below := PySem.W.fnOf "view_below" "view_below" (defArgs s_view_below) (defBody s_view_below) (defScope s_view_below) .none kV_view_below dc_view_below pm_view_below an_view_below cd_view_below ct_view_below, f_view_above := f_view_above, d_view_above := PySem.W.fnOf "view_above" "view_above" (defArgs s_view_above) (defBody s_view_above) (defScope s_view_above) .none kV_view_above dc_view_above pm_view_above an_view_above cd_view_above ct_view_above, f_Ring___init__ := f_Ring___init__, d_Ring___init__ := PySem.W.fnOf "__init__" "Ring.__init__" (defArgs s_Ring___init__) (defBody s_Ring___init__) (defScope s_Ring___init__) .none kV_Ring___init__ dc_Ring___init__ pm_Ring___init__ an_Ring___init__ cd_Ring___init__ ct_Ring___init__, f_Ring_read := f_Ring_read, d_Ring_read := PySem.W.fnOf "read" "Ring.read" (defArgs s_Ring_read) (defBody s_Ring_read) (defScope s_Ring_read) .none kV_Ring_read dc_Ring_read pm_Ring_read an_Ring_read cd_Ring_read ct_Ring_read, f_Ring_write := f_Ring_write, d_Ring_write := PySem.W.fnOf "write" "Ring.write" (defArgs s_Ring_write) (defBody s_Ring_write) (defScope s_Ring_write) .none kV_Ring_write dc_Ring_write pm_Ring_write an_Ring_write cd_Ring_write ct_Ring_write, f_Ring_shift_down := f_Ring_shift_down, d_Ring_shift_down := PySem.W.fnOf "shift_down" "Ring.shift_down" (defArgs s_Ring_shift_down) (defBody s_Ring_shift_down) (defScope s_Ring_shift_down) .none kV_Ring_shift_down dc_Ring_shift_down pm_Ring_shift_down an_Ring_shift_down cd_Ring_shift_down ct_Ring_shift_down, f_Ring_shift_up := f_Ring_shift_up, d_Ring_shift_up := PySem.W.fnOf "shift_up" "Ring.shift_up" (defArgs s_Ring_shift_up) (defBody s_Ring_shift_up) (defScope s_Ring_shift_up) .none kV_Ring_shift_up dc_Ring_shift_up pm_Ring_shift_up an_Ring_shift_up cd_Ring_shift_up ct_Ring_shift_up, f_Ring_blocked_down := f_Ring_blocked_down, d_Ring_blocked_down := PySem.W.fnOf "blocked_down" "Ring.blocked_down" (defArgs s_Ring_blocked_down) (defBody s_Ring_blocked_down) (defScope s_Ring_blocked_down) .none kV_Ring_blocked_down dc_Ring_blocked_down pm_Ring_blocked_down an_Ring_blocked_down cd_Ring_blocked_down ct_Ring_blocked_down, f_Ring_blocked_up := f_Ring_blocked_up, d_Ring_blocked_up := PySem.W.fnOf "blocked_up" "Ring.blocked_up" (defArgs s_Ring_blocked_up) (defBody s_Ring_blocked_up) (defScope s_Ring_blocked_up) .none kV_Ring_blocked_up dc_Ring_blocked_up pm_Ring_blocked_up an_Ring_blocked_up cd_Ring_blocked_up ct_Ring_blocked_up, f_Ring__spill := f_Ring__spill, d_Ring__spill := PySem.W.fnOf "_spill" "Ring._spill" (defArgs s_Ring__spill) (defBody s_Ring__spill) (defScope s_Ring__spill) .none kV_Ring__spill dc_Ring__spill pm_Ring__spill an_Ring__spill cd_Ring__spill ct_Ring__spill, f_Ring__fill := f_Ring__fill, d_Ring__fill := PySem.W.fnOf "_fill" "Ring._fill" (defArgs s_Ring__fill) (defBody s_Ring__fill) (defScope s_Ring__fill) .none kV_Ring__fill dc_Ring__fill pm_Ring__fill an_Ring__fill cd_Ring__fill ct_Ring__fill, f_Ring__save_area := f_Ring__save_area, d_Ring__save_area := PySem.W.fnOf "_save_area" "Ring._save_area" (defArgs s_Ring__save_area) (defBody s_Ring__save_area) (defScope s_Ring__save_area) .none kV_Ring__save_area dc_Ring__save_area pm_Ring__save_area an_Ring__save_area cd_Ring__save_area ct_Ring__save_area, f_law_mixed := f_law_mixed, d_law_mixed := PySem.W.fnOf "_law_mixed" "_law_mixed" (defArgs s_law_mixed) (defBody s_law_mixed) (defScope s_law_mixed) .none kV_law_mixed dc_law_mixed pm_law_mixed an_law_mixed cd_law_mixed ct_law_mixed, f_law_state := f_law_state, d_law_state := PySem.W.fnOf "_law_state" "_law_state" (defArgs s_law_state) (defBody s_law_state) (defScope s_law_state) .none kV_law_state dc_law_state pm_law_state an_law_state cd_law_state ct_law_state, f_law_draw := f_law_draw, d_law_draw := PySem.W.fnOf "_law_draw" "_law_draw" (defArgs s_law_draw) (defBody s_law_draw) (defScope s_law_draw) .none kV_law_draw dc_law_draw pm_law_draw an_law_draw cd_law_draw ct_law_draw, f_law_is_integer := f_law_is_integer, d_law_is_integer := PySem.W.fnOf "_law_is_integer" "_law_is_integer" (defArgs s_law_is_integer) (defBody s_law_is_integer) (defScope s_law_is_integer) .none kV_law_is_integer dc_law_is_integer pm_law_is_integer an_law_is_integer cd_law_is_integer ct_law_is_integer, f_law_word := f_law_word, d_law_word := PySem.W.fnOf "_law_word" "_law_word" (defArgs s_law_word) (defBody s_law_word) (defScope s_law_word) .none kV_law_word dc_law_word pm_law_word an_law_word cd_law_word ct_law_word, f_law_spot := f_law_spot, d_law_spot := PySem.W.fnOf "_law_spot" "_law_spot" (defArgs s_law_spot) (defBody s_law_spot) (defScope s_law_spot) .none kV_law_spot dc_law_spot pm_law_spot an_law_spot cd_law_spot ct_law_spot, f_law_get := f_law_get, d_law_get := PySem.W.fnOf "_law_get" "_law_get" (defArgs s_law_get) (defBody s_law_get) (defScope s_law_get) .none kV_law_get dc_law_get pm_law_get an_law_get cd_law_get ct_law_get, f_law_set := f_law_set, d_law_set := PySem.W.fnOf "_law_set" "_law_set" (defArgs s_law_set) (defBody s_law_set) (defScope s_law_set) .none kV_law_set dc_law_set pm_law_set an_law_set cd_law_set ct_law_set, f_law_add := f_law_add, d_law_add := PySem.W.fnOf "_law_add" "_law_add" (defArgs s_law_add) (defBody s_law_add) (defScope s_law_add) .none kV_law_add dc_law_add pm_law_add an_law_add cd_law_add ct_law_add, f_law_lies := f_law_lies, d_law_lies := PySem.W.fnOf "_law_lies" "_law_lies" (defArgs s_law_lies) (defBody s_law_lies) (defScope s_law_lies) .none kV_law_lies dc_law_lies pm_law_lies an_law_lies cd_law_lies ct_law_lies, f_law_ring_down := f_law_ring_down, d_law_ring_down := PySem.W.fnOf "_law_ring_down" "_law_ring_down" (defArgs s_law_ring_down) (defBody s_law_ring_down) (defScope s_law_ring_down) .none kV_law_ring_down dc_law_ring_down pm_law_ring_down an_law_ring_down cd_law_ring_down ct_law_ring_down, f_law_ring_up := f_law_ring_up, d_law_ring_up := PySem.W.fnOf "_law_ring_up" "_law_ring_up" (defArgs s_law_ring_up) (defBody s_law_ring_up) (defScope s_law_ring_up) .none kV_law_ring_up dc_law_ring_up pm_law_ring_up an_law_ring_up cd_law_ring_up ct_law_ring_up, f_law_goes_down := f_law_goes_down, d_law_goes_down := PySem.W.fnOf "_law_goes_down" "_law_goes_down" (defArgs s_law_goes_down) (defBody s_law_goes_down) (defScope s_law_goes_down) .none kV_law_goes_down dc_law_goes_down pm_law_goes_down an_law_goes_down cd_law_goes_down ct_law_goes_down, f_law_goes_up := f_law_goes_up, d_law_goes_up := PySem.W.fnOf "_law_goes_up" "_law_goes_up" (defArgs s_law_goes_up) (defBody s_law_goes_up) (defScope s_law_goes_up) .none kV_law_goes_up dc_law_goes_up pm_law_goes_up an_law_goes_up cd_law_goes_up ct_law_goes_up, f_law_alike := f_law_alike, d_law_alike := PySem.W.fnOf "_law_alike" "_law_alike" (defArgs s_law_alike) (defBody s_law_alike) (defScope s_law_alike) .none kV_law_alike dc_law_alike pm_law_alike an_law_alike cd_law_alike ct_law_alike, f_law_write := f_law_write, d_law_write := PySem.W.fnOf "_law_write" "_law_write" (defArgs s_law_write) (defBody s_law_write) (defScope s_law_write) .none kV_law_write dc_law_write pm_law_write an_law_write cd_law_write ct_law_write, f_law_deed := f_law_deed, d_law_deed := PySem.W.fnOf "_law_deed" "_law_deed" (defArgs s_law_deed) (defBody s_law_deed) (defScope s_law_deed) .none kV_law_deed dc_law_deed pm_law_deed an_law_deed cd_law_deed ct_law_deed, f_law := fa, d_law := PySem.W.fnOf "law" "law" (defArgs s_law) (defBody s_law) (defScope s_law) .none kV_law dc_law pm_law an_law cd_law ct_law, t_FIRST_IN := t_FIRST_IN, t_FIRST_LOCAL := t_FIRST_LOCAL, t_FIRST_OUT := t_FIRST_OUT, t_POINTER := t_POINTER, t_SAVED := t_SAVED, C_Ring := C_Ring, C_Fault := C_Fault, C_AdaError := C_AdaError }
  have T : Txt K mg a := {
    g_empty_view := PySem.W.mg_of X G a_empty_view,
    F_empty_view := fun_mk (st := s_empty_view) l_empty_view c_empty_view k_empty_view,
    k_empty_view := k_empty_view,
    bd_empty_view := (fun_mk (st := s_empty_view) l_empty_view c_empty_view k_empty_view).binds (ps := []) fun _ _ _ _ _ _ us hl => match us, hl with | [], _ => rfl,
    g_locals_and_ins := PySem.W.mg_of X G a_locals_and_ins,
    F_locals_and_ins := fun_mk (st := s_locals_and_ins) l_locals_and_ins c_locals_and_ins k_locals_and_ins,
    k_locals_and_ins := k_locals_and_ins,
    bd_locals_and_ins := (fun_mk (st := s_locals_and_ins) l_locals_and_ins c_locals_and_ins k_locals_and_ins).binds (ps := ["view"]) fun _ _ _ _ _ _ us hl => match us, hl with | [_], _ => rfl,
    g_view_below := PySem.W.mg_of X G a_view_below,
    F_view_below := fun_mk (st := s_view_below) l_view_below c_view_below k_view_below,
    k_view_below := k_view_below,
    bd_view_below := (fun_mk (st := s_view_below) l_view_below c_view_below k_view_below).binds (ps := ["view"]) fun _ _ _ _ _ _ us hl => match us, hl with | [_], _ => rfl,
    g_view_above := PySem.W.mg_of X G a_view_above,
    F_view_above := fun_mk (st := s_view_above) l_view_above c_view_above k_view_above,
    k_view_above := k_view_above,
    bd_view_above := (fun_mk (st := s_view_above) l_view_above c_view_above k_view_above).binds (ps := ["view", "words"]) fun _ _ _ _ _ _ us hl => match us, hl with | [_, _], _ => rfl,
    F_Ring___init__ := fun_mk (st := s_Ring___init__) l_Ring___init__ c_Ring___init__ k_Ring___init__,
    k_Ring___init__ := k_Ring___init__,
    bd_Ring___init__ := (fun_mk (st := s_Ring___init__) l_Ring___init__ c_Ring___init__ k_Ring___init__).binds (ps := ["self", "memory", "windows"]) fun _ _ _ _ _ _ us hl => match us, hl with | [_, _, _], _ => rfl,
    F_Ring_read := fun_mk (st := s_Ring_read) l_Ring_read c_Ring_read k_Ring_read,
    k_Ring_read := k_Ring_read,
    bd_Ring_read := (fun_mk (st := s_Ring_read) l_Ring_read c_Ring_read k_Ring_read).binds (ps := ["self", "number"]) fun _ _ _ _ _ _ us hl => match us, hl with | [_, _], _ => rfl,
    F_Ring_write := fun_mk (st := s_Ring_write) l_Ring_write c_Ring_write k_Ring_write,
    k_Ring_write := k_Ring_write,
    bd_Ring_write := (fun_mk (st := s_Ring_write) l_Ring_write c_Ring_write k_Ring_write).binds (ps := ["self", "number", "word"]) fun _ _ _ _ _ _ us hl => match us, hl with | [_, _, _], _ => rfl,
    F_Ring_shift_down := fun_mk (st := s_Ring_shift_down) l_Ring_shift_down c_Ring_shift_down k_Ring_shift_down,
    k_Ring_shift_down := k_Ring_shift_down,
    bd_Ring_shift_down := (fun_mk (st := s_Ring_shift_down) l_Ring_shift_down c_Ring_shift_down k_Ring_shift_down).binds (ps := ["self"]) fun _ _ _ _ _ _ us hl => match us, hl with | [_], _ => rfl,
    F_Ring_shift_up := fun_mk (st := s_Ring_shift_up) l_Ring_shift_up c_Ring_shift_up k_Ring_shift_up,
    k_Ring_shift_up := k_Ring_shift_up,
    bd_Ring_shift_up := (fun_mk (st := s_Ring_shift_up) l_Ring_shift_up c_Ring_shift_up k_Ring_shift_up).binds (ps := ["self"]) fun _ _ _ _ _ _ us hl => match us, hl with | [_], _ => rfl,
    F_Ring_blocked_down := fun_mk (st := s_Ring_blocked_down) l_Ring_blocked_down c_Ring_blocked_down k_Ring_blocked_down,
    k_Ring_blocked_down := k_Ring_blocked_down,
    bd_Ring_blocked_down := (fun_mk (st := s_Ring_blocked_down) l_Ring_blocked_down c_Ring_blocked_down k_Ring_blocked_down).binds (ps := ["self"]) fun _ _ _ _ _ _ us hl => match us, hl with | [_], _ => rfl,
    F_Ring_blocked_up := fun_mk (st := s_Ring_blocked_up) l_Ring_blocked_up c_Ring_blocked_up k_Ring_blocked_up,
    k_Ring_blocked_up := k_Ring_blocked_up,
    bd_Ring_blocked_up := (fun_mk (st := s_Ring_blocked_up) l_Ring_blocked_up c_Ring_blocked_up k_Ring_blocked_up).binds (ps := ["self"]) fun _ _ _ _ _ _ us hl => match us, hl with | [_], _ => rfl,
    F_Ring__spill := fun_mk (st := s_Ring__spill) l_Ring__spill c_Ring__spill k_Ring__spill,
    k_Ring__spill := k_Ring__spill,
    bd_Ring__spill := (fun_mk (st := s_Ring__spill) l_Ring__spill c_Ring__spill k_Ring__spill).binds (ps := ["self"]) fun _ _ _ _ _ _ us hl => match us, hl with | [_], _ => rfl,
    F_Ring__fill := fun_mk (st := s_Ring__fill) l_Ring__fill c_Ring__fill k_Ring__fill,
    k_Ring__fill := k_Ring__fill,
    bd_Ring__fill := (fun_mk (st := s_Ring__fill) l_Ring__fill c_Ring__fill k_Ring__fill).binds (ps := ["self"]) fun _ _ _ _ _ _ us hl => match us, hl with | [_], _ => rfl,
    F_Ring__save_area := fun_mk (st := s_Ring__save_area) l_Ring__save_area c_Ring__save_area k_Ring__save_area,
    k_Ring__save_area := k_Ring__save_area,
    bd_Ring__save_area := (fun_mk (st := s_Ring__save_area) l_Ring__save_area c_Ring__save_area k_Ring__save_area).binds (ps := ["self", "start"]) fun _ _ _ _ _ _ us hl => match us, hl with | [_, _], _ => rfl,
    g__law_mixed := PySem.W.mg_of X G a_law_mixed,
    F__law_mixed := fun_mk (st := s_law_mixed) l_law_mixed c_law_mixed k_law_mixed,
    k__law_mixed := k_law_mixed,
    bd__law_mixed := (fun_mk (st := s_law_mixed) l_law_mixed c_law_mixed k_law_mixed).binds (ps := ["number", "count"]) fun _ _ _ _ _ _ us hl => match us, hl with | [_, _], _ => rfl,
    g__law_state := PySem.W.mg_of X G a_law_state,
    F__law_state := fun_mk (st := s_law_state) l_law_state c_law_state k_law_state,
    k__law_state := k_law_state,
    bd__law_state := (fun_mk (st := s_law_state) l_law_state c_law_state k_law_state).binds (ps := ["script", "budget"]) fun _ _ _ _ _ _ us hl => match us, hl with | [_, _], _ => rfl,
    g__law_draw := PySem.W.mg_of X G a_law_draw,
    F__law_draw := fun_mk (st := s_law_draw) l_law_draw c_law_draw k_law_draw,
    k__law_draw := k_law_draw,
    bd__law_draw := (fun_mk (st := s_law_draw) l_law_draw c_law_draw k_law_draw).binds (ps := ["state", "many"]) fun _ _ _ _ _ _ us hl => match us, hl with | [_, _], _ => rfl,
    g__law_is_integer := PySem.W.mg_of X G a_law_is_integer,
    F__law_is_integer := fun_mk (st := s_law_is_integer) l_law_is_integer c_law_is_integer k_law_is_integer,
    k__law_is_integer := k_law_is_integer,
    bd__law_is_integer := (fun_mk (st := s_law_is_integer) l_law_is_integer c_law_is_integer k_law_is_integer).binds (ps := ["actual"]) fun _ _ _ _ _ _ us hl => match us, hl with | [_], _ => rfl,
    g__law_word := PySem.W.mg_of X G a_law_word,
    F__law_word := fun_mk (st := s_law_word) l_law_word c_law_word k_law_word,
    k__law_word := k_law_word,
    bd__law_word := (fun_mk (st := s_law_word) l_law_word c_law_word k_law_word).binds (ps := ["state"]) fun _ _ _ _ _ _ us hl => match us, hl with | [_], _ => rfl,
    g__law_spot := PySem.W.mg_of X G a_law_spot,
    F__law_spot := fun_mk (st := s_law_spot) l_law_spot c_law_spot k_law_spot,
    k__law_spot := k_law_spot,
    bd__law_spot := (fun_mk (st := s_law_spot) l_law_spot c_law_spot k_law_spot).binds (ps := ["m", "number"]) fun _ _ _ _ _ _ us hl => match us, hl with | [_, _], _ => rfl,
    g__law_get := PySem.W.mg_of X G a_law_get,
    F__law_get := fun_mk (st := s_law_get) l_law_get c_law_get k_law_get,
    k__law_get := k_law_get,
    bd__law_get := (fun_mk (st := s_law_get) l_law_get c_law_get k_law_get).binds (ps := ["m", "number"]) fun _ _ _ _ _ _ us hl => match us, hl with | [_, _], _ => rfl,
    g__law_set := PySem.W.mg_of X G a_law_set,
    F__law_set := fun_mk (st := s_law_set) l_law_set c_law_set k_law_set,
    k__law_set := k_law_set,
    bd__law_set := (fun_mk (st := s_law_set) l_law_set c_law_set k_law_set).binds (ps := ["m", "number", "word"]) fun _ _ _ _ _ _ us hl => match us, hl with | [_, _, _], _ => rfl,
    g__law_add := PySem.W.mg_of X G a_law_add,
    F__law_add := fun_mk (st := s_law_add) l_law_add c_law_add k_law_add,
    k__law_add := k_law_add,
    bd__law_add := (fun_mk (st := s_law_add) l_law_add c_law_add k_law_add).binds (ps := ["m", "key", "by"]) fun _ _ _ _ _ _ us hl => match us, hl with | [_, _, _], _ => rfl,
    g__law_lies := PySem.W.mg_of X G a_law_lies,
    F__law_lies := fun_mk (st := s_law_lies) l_law_lies c_law_lies k_law_lies,
    k__law_lies := k_law_lies,
    bd__law_lies := (fun_mk (st := s_law_lies) l_law_lies c_law_lies k_law_lies).binds (ps := ["m", "start"]) fun _ _ _ _ _ _ us hl => match us, hl with | [_, _], _ => rfl,
    g__law_ring_down := PySem.W.mg_of X G a_law_ring_down,
    F__law_ring_down := fun_mk (st := s_law_ring_down) l_law_ring_down c_law_ring_down k_law_ring_down,
    k__law_ring_down := k_law_ring_down,
    bd__law_ring_down := (fun_mk (st := s_law_ring_down) l_law_ring_down c_law_ring_down k_law_ring_down).binds (ps := ["m"]) fun _ _ _ _ _ _ us hl => match us, hl with | [_], _ => rfl,
    g__law_ring_up := PySem.W.mg_of X G a_law_ring_up,
    F__law_ring_up := fun_mk (st := s_law_ring_up) l_law_ring_up c_law_ring_up k_law_ring_up,
    k__law_ring_up := k_law_ring_up,
    bd__law_ring_up := (fun_mk (st := s_law_ring_up) l_law_ring_up c_law_ring_up k_law_ring_up).binds (ps := ["m"]) fun _ _ _ _ _ _ us hl => match us, hl with | [_], _ => rfl,
    g__law_goes_down := PySem.W.mg_of X G a_law_goes_down,
    F__law_goes_down := fun_mk (st := s_law_goes_down) l_law_goes_down c_law_goes_down k_law_goes_down,
    k__law_goes_down := k_law_goes_down,
    bd__law_goes_down := (fun_mk (st := s_law_goes_down) l_law_goes_down c_law_goes_down k_law_goes_down).binds (ps := ["ring", "m"]) fun _ _ _ _ _ _ us hl => match us, hl with | [_, _], _ => rfl,
    g__law_goes_up := PySem.W.mg_of X G a_law_goes_up,
    F__law_goes_up := fun_mk (st := s_law_goes_up) l_law_goes_up c_law_goes_up k_law_goes_up,
    k__law_goes_up := k_law_goes_up,
    bd__law_goes_up := (fun_mk (st := s_law_goes_up) l_law_goes_up c_law_goes_up k_law_goes_up).binds (ps := ["ring", "m"]) fun _ _ _ _ _ _ us hl => match us, hl with | [_, _], _ => rfl,
    g__law_alike := PySem.W.mg_of X G a_law_alike,
    F__law_alike := fun_mk (st := s_law_alike) l_law_alike c_law_alike k_law_alike,
    k__law_alike := k_law_alike,
    bd__law_alike := (fun_mk (st := s_law_alike) l_law_alike c_law_alike k_law_alike).binds (ps := ["ring", "m", "memory"]) fun _ _ _ _ _ _ us hl => match us, hl with | [_, _, _], _ => rfl,
    g__law_write := PySem.W.mg_of X G a_law_write,
    F__law_write := fun_mk (st := s_law_write) l_law_write c_law_write k_law_write,
    k__law_write := k_law_write,
    bd__law_write := (fun_mk (st := s_law_write) l_law_write c_law_write k_law_write).binds (ps := ["ring", "m", "number", "word"]) fun _ _ _ _ _ _ us hl => match us, hl with | [_, _, _, _], _ => rfl,
    g__law_deed := PySem.W.mg_of X G a_law_deed,
    F__law_deed := fun_mk (st := s_law_deed) l_law_deed c_law_deed k_law_deed,
    k__law_deed := k_law_deed,
    bd__law_deed := (fun_mk (st := s_law_deed) l_law_deed c_law_deed k_law_deed).binds (ps := ["state", "ring", "m", "memory"]) fun _ _ _ _ _ _ us hl => match us, hl with | [_, _, _, _], _ => rfl,
    g_law := PySem.W.mg_of X G a_law,
    F_law := fun_mk (st := s_law) l_law c_law k_law,
    k_law := k_law,
    bd_law := (fun_mk (st := s_law) l_law c_law k_law).binds (ps := ["script"]) fun _ _ _ _ _ _ us hl => match us, hl with | [_], _ => rfl,
    g_FIRST_IN := PySem.W.mg_of X G a_FIRST_IN,
    g_FIRST_LOCAL := PySem.W.mg_of X G a_FIRST_LOCAL,
    g_FIRST_OUT := PySem.W.mg_of X G a_FIRST_OUT,
    g_POINTER := PySem.W.mg_of X G a_POINTER,
    g_SAVED := PySem.W.mg_of X G a_SAVED,
    b_abs := PySem.W.mg_none_of X G z_abs,
    b_all := PySem.W.mg_none_of X G z_all,
    b_bool := PySem.W.mg_none_of X G z_bool,
    b_int := PySem.W.mg_none_of X G z_int,
    b_isinstance := PySem.W.mg_none_of X G z_isinstance,
    b_len := PySem.W.mg_none_of X G z_len,
    b_list := PySem.W.mg_none_of X G z_list,
    b_max := PySem.W.mg_none_of X G z_max,
    b_range := PySem.W.mg_none_of X G z_range,
    b_sum := PySem.W.mg_none_of X G z_sum,
    g_Ring := PySem.W.mg_of X G aC_Ring,
    cl_Ring := ⟨pg_Ring, hd_Ring, po_Ring, sa_Ring⟩,
    mk_Ring := ⟨mk_Ring, a_Ring___init__, i_Ring___init__, kC_Ring⟩,
    n_Ring_depth := n_Ring_depth,
    n_Ring_spills := n_Ring_spills,
    n_Ring_fills := n_Ring_fills,
    n_Ring_resident := n_Ring_resident,
    n_Ring__memory := n_Ring__memory,
    n_Ring__most := n_Ring__most,
    n_Ring__view := n_Ring__view,
    n_Ring__above := n_Ring__above,
    m_Ring_read := ⟨a_Ring_read, i_Ring_read, k_Ring_read⟩,
    m_Ring_write := ⟨a_Ring_write, i_Ring_write, k_Ring_write⟩,
    m_Ring_shift_down := ⟨a_Ring_shift_down, i_Ring_shift_down, k_Ring_shift_down⟩,
    m_Ring_shift_up := ⟨a_Ring_shift_up, i_Ring_shift_up, k_Ring_shift_up⟩,
    m_Ring_blocked_down := ⟨a_Ring_blocked_down, i_Ring_blocked_down, k_Ring_blocked_down⟩,
    m_Ring_blocked_up := ⟨a_Ring_blocked_up, i_Ring_blocked_up, k_Ring_blocked_up⟩,
    m_Ring__spill := ⟨a_Ring__spill, i_Ring__spill, k_Ring__spill⟩,
    m_Ring__fill := ⟨a_Ring__fill, i_Ring__fill, k_Ring__fill⟩,
    m_Ring__save_area := ⟨a_Ring__save_area, i_Ring__save_area, k_Ring__save_area⟩,
    g_Fault := PySem.W.mg_of X G aC_Fault,
    x_Fault := x_Fault,
    kC_Fault := kC_Fault,
    s1_Fault := s1_Fault,
    ty_Fault := ty_Fault,
    ic_Fault := ic_Fault,
    ec_Fault := ⟨h1_Fault, h2_Fault, s1_Fault, h3_Fault, h4_Fault, h5_Fault, h6_Fault, h7_Fault⟩,
    g_AdaError := PySem.W.mg_of X G aC_AdaError,
    x_AdaError := x_AdaError,
    kC_AdaError := kC_AdaError,
    s1_AdaError := s1_AdaError,
    ty_AdaError := ty_AdaError,
    ic_AdaError := ic_AdaError,
    e_Fault_Fault := exm_of s1_Fault ic_Fault ty_Fault e_Fault_Fault,
    i_Fault_AdaError := kit_sub i_Fault_AdaError (fun z => nomatch z) ic_AdaError ty_AdaError }
  exact ⟨a.d_law, fun s v => .of_eq rfl, fun base _ _ => ok_law T⟩
theorem walk {l : PySem.W.OpenLaw} {q : Program} {loose : List Str} {XP : (Str → Option Value) → Heap → Prop} {YP : World → Heap → Prop} {d : DefRec} {K : Params → PySem.W.Frag} (hn : l.most = some 63) (hdf : d.params.defaults = [])
    (hY : ∀ (w : World) (h : Heap), YP w h → (K w.params).In h)
    (F : ∀ (w : World) (mg : Str → Option Value) (fa : Addr) (h : Heap), (K w.params).In h → h.Ns mainGlobals mg → mg d.name = some (.ref fa) →
      ∃ fd : FuncData, (∀ (s : Shared) (u : Value), BindsTo s fd ⟨[u], []⟩ [("script", u)]) ∧ ∀ base : Heap, (K w.params).In base → base.Ns mainGlobals mg → FnOk l.prog w (K w.params) mg base CX0 6 fa fd ["script"] (spLaw (K w.params))) :
    PySem.W.WalkO q loose XP YP l.row.toRowW d [] (fun f vs => PySem.call f vs) :=
  L2.walk_of (n := 63) (k := 6) (x := "script") (CX := fun _ => CX0) (sp := fun w => spLaw (K w.params)) hn (by decide) hdf ⟨rfl, by decide, by decide⟩ hY F (fun _ _ a ns hl _ hS => ⟨a, ns, rfl, hS, hl, fun _ => rfl⟩) fun _ _ _ _ _ z => z

end My
open PySem PySem.W PyProof.Rows
set_option maxRecDepth 100000 in
set_option maxHeartbeats 0 in
theorem PySem.Challenge.cw_windowada_k67_ring_holds : PySem.Challenge.rw_windowada_k67_ring.Holds := by
  w_on; o_law; k_head; (case hw => w_witness2)
  k_fill
  refine My.walk (l := PySem.Challenge.rw_windowada_k67_ring) rfl rfl (fun w h Y => PySem.W.kIn_of Y) ?F
  case F =>
    intro w mg fa h KX G hmg
    refine' My.all_mk KX G hmg ?aC_Ring ?pg_Ring ?hd_Ring ?po_Ring ?sa_Ring ?mk_Ring ?kC_Ring ?n_Ring_depth ?n_Ring_spills ?n_Ring_fills ?n_Ring_resident ?n_Ring__memory ?n_Ring__most ?n_Ring__view ?n_Ring__above ?aC_Fault ?x_Fault ?kC_Fault ?s1_Fault ?ty_Fault ?ic_Fault ?h1_Fault ?h2_Fault ?h3_Fault ?h4_Fault ?h5_Fault ?h6_Fault ?h7_Fault ?aC_AdaError ?x_AdaError ?kC_AdaError ?s1_AdaError ?ty_AdaError ?ic_AdaError ?e_Fault_Fault ?i_Fault_AdaError ?a_empty_view ?l_empty_view ?c_empty_view ?k_empty_view ?a_locals_and_ins ?l_locals_and_ins ?c_locals_and_ins ?k_locals_and_ins ?a_view_below ?l_view_below ?c_view_below ?k_view_below ?a_view_above ?l_view_above ?c_view_above ?k_view_above ?a_Ring___init__ ?i_Ring___init__ ?l_Ring___init__ ?c_Ring___init__ ?k_Ring___init__ ?a_Ring_read ?i_Ring_read ?l_Ring_read ?c_Ring_read ?k_Ring_read ?a_Ring_write ?i_Ring_write ?l_Ring_write ?c_Ring_write ?k_Ring_write ?a_Ring_shift_down ?i_Ring_shift_down ?l_Ring_shift_down ?c_Ring_shift_down ?k_Ring_shift_down ?a_Ring_shift_up ?i_Ring_shift_up ?l_Ring_shift_up ?c_Ring_shift_up ?k_Ring_shift_up ?a_Ring_blocked_down ?i_Ring_blocked_down ?l_Ring_blocked_down ?c_Ring_blocked_down ?k_Ring_blocked_down ?a_Ring_blocked_up ?i_Ring_blocked_up ?l_Ring_blocked_up ?c_Ring_blocked_up ?k_Ring_blocked_up ?a_Ring__spill ?i_Ring__spill ?l_Ring__spill ?c_Ring__spill ?k_Ring__spill ?a_Ring__fill ?i_Ring__fill ?l_Ring__fill ?c_Ring__fill ?k_Ring__fill ?a_Ring__save_area ?i_Ring__save_area ?l_Ring__save_area ?c_Ring__save_area ?k_Ring__save_area ?a_law_mixed ?l_law_mixed ?c_law_mixed ?k_law_mixed ?a_law_state ?l_law_state ?c_law_state ?k_law_state ?a_law_draw ?l_law_draw ?c_law_draw ?k_law_draw ?a_law_is_integer ?l_law_is_integer ?c_law_is_integer ?k_law_is_integer ?a_law_word ?l_law_word ?c_law_word ?k_law_word ?a_law_spot ?l_law_spot ?c_law_spot ?k_law_spot ?a_law_get ?l_law_get ?c_law_get ?k_law_get ?a_law_set ?l_law_set ?c_law_set ?k_law_set ?a_law_add ?l_law_add ?c_law_add ?k_law_add ?a_law_lies ?l_law_lies ?c_law_lies ?k_law_lies ?a_law_ring_down ?l_law_ring_down ?c_law_ring_down ?k_law_ring_down ?a_law_ring_up ?l_law_ring_up ?c_law_ring_up ?k_law_ring_up ?a_law_goes_down ?l_law_goes_down ?c_law_goes_down ?k_law_goes_down ?a_law_goes_up ?l_law_goes_up ?c_law_goes_up ?k_law_goes_up ?a_law_alike ?l_law_alike ?c_law_alike ?k_law_alike ?a_law_write ?l_law_write ?c_law_write ?k_law_write ?a_law_deed ?l_law_deed ?c_law_deed ?k_law_deed ?a_law ?l_law ?c_law ?k_law ?a_FIRST_IN ?a_FIRST_LOCAL ?a_FIRST_OUT ?a_POINTER ?a_SAVED ?z_abs ?z_all ?z_bool ?z_int ?z_isinstance ?z_len ?z_list ?z_max ?z_range ?z_sum
    (case aC_Ring => k_is)
    (case pg_Ring => k_is)
    (case hd_Ring => k_is)
    (case po_Ring => k_is)
    (case sa_Ring => k_is)
    (case mk_Ring => k_is)
    (case kC_Ring => k_is)
    (case n_Ring_depth => k_is)
    (case n_Ring_spills => k_is)
    (case n_Ring_fills => k_is)
    (case n_Ring_resident => k_is)
    (case n_Ring__memory => k_is)
    (case n_Ring__most => k_is)
    (case n_Ring__view => k_is)
    (case n_Ring__above => k_is)
    (case aC_Fault => k_is)
    (case x_Fault => k_exc)
    (case kC_Fault => k_is)
    (case s1_Fault => k_is)
    (case ty_Fault => k_is)
    (case ic_Fault => k_is)
    (case h1_Fault => k_is)
    (case h2_Fault => k_is)
    (case h3_Fault => k_is)
    (case h4_Fault => k_is)
    (case h5_Fault => k_is)
    (case h6_Fault => k_is)
    (case h7_Fault => k_is)
    (case aC_AdaError => k_is)
    (case x_AdaError => k_exc)
    (case kC_AdaError => k_is)
    (case s1_AdaError => k_is)
    (case ty_AdaError => k_is)
    (case ic_AdaError => k_is)
    (case e_Fault_Fault => first | rfl | k_is)
    (case i_Fault_AdaError => first | rfl | k_is)
    (case a_empty_view => k_is)
    (case l_empty_view => k_is)
    (case c_empty_view => k_is)
    (case k_empty_view => k_is)
    (case a_locals_and_ins => k_is)
    (case l_locals_and_ins => k_is)
    (case c_locals_and_ins => k_is)
    (case k_locals_and_ins => k_is)
    (case a_view_below => k_is)
    (case l_view_below => k_is)
    (case c_view_below => k_is)
    (case k_view_below => k_is)
    (case a_view_above => k_is)
    (case l_view_above => k_is)
    (case c_view_above => k_is)
    (case k_view_above => k_is)
    (case a_Ring___init__ => k_is)
    (case i_Ring___init__ => first | rfl | k_is)
    (case l_Ring___init__ => k_is)
    (case c_Ring___init__ => k_is)
    (case k_Ring___init__ => k_is)
    (case a_Ring_read => k_is)
    (case i_Ring_read => first | rfl | k_is)
    (case l_Ring_read => k_is)
    (case c_Ring_read => k_is)
    (case k_Ring_read => k_is)
    (case a_Ring_write => k_is)
    (case i_Ring_write => first | rfl | k_is)
    (case l_Ring_write => k_is)
    (case c_Ring_write => k_is)
    (case k_Ring_write => k_is)
    (case a_Ring_shift_down => k_is)
    (case i_Ring_shift_down => first | rfl | k_is)
    (case l_Ring_shift_down => k_is)
    (case c_Ring_shift_down => k_is)
    (case k_Ring_shift_down => k_is)
    (case a_Ring_shift_up => k_is)
    (case i_Ring_shift_up => first | rfl | k_is)
    (case l_Ring_shift_up => k_is)
    (case c_Ring_shift_up => k_is)
    (case k_Ring_shift_up => k_is)
    (case a_Ring_blocked_down => k_is)
    (case i_Ring_blocked_down => first | rfl | k_is)
    (case l_Ring_blocked_down => k_is)
    (case c_Ring_blocked_down => k_is)
    (case k_Ring_blocked_down => k_is)
    (case a_Ring_blocked_up => k_is)
    (case i_Ring_blocked_up => first | rfl | k_is)
    (case l_Ring_blocked_up => k_is)
    (case c_Ring_blocked_up => k_is)
    (case k_Ring_blocked_up => k_is)
    (case a_Ring__spill => k_is)
    (case i_Ring__spill => first | rfl | k_is)
    (case l_Ring__spill => k_is)
    (case c_Ring__spill => k_is)
    (case k_Ring__spill => k_is)
    (case a_Ring__fill => k_is)
    (case i_Ring__fill => first | rfl | k_is)
    (case l_Ring__fill => k_is)
    (case c_Ring__fill => k_is)
    (case k_Ring__fill => k_is)
    (case a_Ring__save_area => k_is)
    (case i_Ring__save_area => first | rfl | k_is)
    (case l_Ring__save_area => k_is)
    (case c_Ring__save_area => k_is)
    (case k_Ring__save_area => k_is)
    (case a_law_mixed => k_is)
    (case l_law_mixed => k_is)
    (case c_law_mixed => k_is)
    (case k_law_mixed => k_is)
    (case a_law_state => k_is)
    (case l_law_state => k_is)
    (case c_law_state => k_is)
    (case k_law_state => k_is)
    (case a_law_draw => k_is)
    (case l_law_draw => k_is)
    (case c_law_draw => k_is)
    (case k_law_draw => k_is)
    (case a_law_is_integer => k_is)
    (case l_law_is_integer => k_is)
    (case c_law_is_integer => k_is)
    (case k_law_is_integer => k_is)
    (case a_law_word => k_is)
    (case l_law_word => k_is)
    (case c_law_word => k_is)
    (case k_law_word => k_is)
    (case a_law_spot => k_is)
    (case l_law_spot => k_is)
    (case c_law_spot => k_is)
    (case k_law_spot => k_is)
    (case a_law_get => k_is)
    (case l_law_get => k_is)
    (case c_law_get => k_is)
    (case k_law_get => k_is)
    (case a_law_set => k_is)
    (case l_law_set => k_is)
    (case c_law_set => k_is)
    (case k_law_set => k_is)
    (case a_law_add => k_is)
    (case l_law_add => k_is)
    (case c_law_add => k_is)
    (case k_law_add => k_is)
    (case a_law_lies => k_is)
    (case l_law_lies => k_is)
    (case c_law_lies => k_is)
    (case k_law_lies => k_is)
    (case a_law_ring_down => k_is)
    (case l_law_ring_down => k_is)
    (case c_law_ring_down => k_is)
    (case k_law_ring_down => k_is)
    (case a_law_ring_up => k_is)
    (case l_law_ring_up => k_is)
    (case c_law_ring_up => k_is)
    (case k_law_ring_up => k_is)
    (case a_law_goes_down => k_is)
    (case l_law_goes_down => k_is)
    (case c_law_goes_down => k_is)
    (case k_law_goes_down => k_is)
    (case a_law_goes_up => k_is)
    (case l_law_goes_up => k_is)
    (case c_law_goes_up => k_is)
    (case k_law_goes_up => k_is)
    (case a_law_alike => k_is)
    (case l_law_alike => k_is)
    (case c_law_alike => k_is)
    (case k_law_alike => k_is)
    (case a_law_write => k_is)
    (case l_law_write => k_is)
    (case c_law_write => k_is)
    (case k_law_write => k_is)
    (case a_law_deed => k_is)
    (case l_law_deed => k_is)
    (case c_law_deed => k_is)
    (case k_law_deed => k_is)
    (case a_law => k_is)
    (case l_law => k_is)
    (case c_law => k_is)
    (case k_law => k_is)
    (case a_FIRST_IN => k_is)
    (case a_FIRST_LOCAL => k_is)
    (case a_FIRST_OUT => k_is)
    (case a_POINTER => k_is)
    (case a_SAVED => k_is)
    (case z_abs => k_is)
    (case z_all => k_is)
    (case z_bool => k_is)
    (case z_int => k_is)
    (case z_isinstance => k_is)
    (case z_len => k_is)
    (case z_list => k_is)
    (case z_max => k_is)
    (case z_range => k_is)
    (case z_sum => k_is)

