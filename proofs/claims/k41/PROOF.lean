import PyProof.Rows.All
import Wide.All
import OpenK.AllK
import Wide.FinOn
import HandS.ForMost
import HandS.ForExc
import HandS.Wide
import HandS.IsInst
import HandS.ExcIs
import HandS.WordsExc
import HandS.Property
import HandS.More
import HandS.Codes
import HandS.TupMul
import HandS.Strs
import HandS.SetFor
import HandS.TryOnly
import HandS.Star
import HandS.Walk
import KE.GoesZip
import KE.GoesEnum
import KE.KItemsList
import HandS.Conv
import PySem.Challenge.RW_windowada_k41_reached
set_option Elab.async false
set_option maxRecDepth 100000
set_option maxHeartbeats 4000000
set_option linter.all false
namespace My
open PySem L2
/-! ### helpers -/
def IsTupOf (o : Obj) (xs : List V) : Prop := o.cls = .type "tuple" ∧ ∃ (its : Array Value) (n : Nat), o.data = .seq its n ∧ its.size ≤ sizeLine ∧ Vals xs its.toList
theorem sqT_of {K : PySem.W.Frag} {H : Hp} {a : Addr} {o : Obj} {xs : List V} (h : K.lookup a = some o) (q : IsTupOf o xs) : SqT K H a xs := by
  obtain ⟨c, its, n, d, z, r⟩ := q
  exact .inr ⟨o, its, n, h, c, d, z, r⟩
theorem upd_self {H : Hp} {a : Addr} {o : HO} (h : H a = some o) : upd H a o = H := by
  funext b
  unfold upd
  split
  · rename_i e; rw [e, h]
  · rfl
theorem exm_of {K : PySem.W.Frag} {S C : Addr} (h1 : PySem.W.subIn K (.ref C) (.type "BaseException") = some true) (h2 : PySem.W.isClsIn K C = true) (h3 : PySem.W.typeIn K (.ref C) = some (.type "type")) {b : Bool} (h4 : PySem.W.subIn K (.ref S) (.ref C) = some b) :
    PySem.W.exmOne K (.ref S) (.ref C) = some b := by
  have e1 : (PySem.W.subIn K (.ref C) (.type "BaseException") == some true) = true := by rw [h1] <;> rfl
  have e2 : ((PySem.W.clsIn K C).isSome && PySem.W.typeIn K (.ref C) == some (.type "type")) = true := by
    have h2' : (PySem.W.clsIn K C).isSome = true := h2
    rw [h2', h3] <;> rfl
  show (if (PySem.W.subIn K (.ref C) (.type "BaseException") == some true) = true then (if ((PySem.W.clsIn K C).isSome && PySem.W.typeIn K (.ref C) == some (.type "type")) = true then PySem.W.subIn K (.ref S) (.ref C) else none) else none) = some b
  rw [if_pos e1, if_pos e2]
  exact h4
theorem sN {H H1 : Hp} {p : Addr} {o : HO} (s : Same H H1) (n : H1 p = none) : Same H (upd H1 p o) := fun b u e => by
  rw [upd_ne (ne_of_none (s b u e) n)]
  exact s b u e
theorem seqT {K : PySem.W.Frag} {H H' : Hp} {a : Addr} {xs : List V} (e : Same H H') (h : SqT K H a xs) : SqT K H' a xs := by
  rcases h with (h | ⟨o, h⟩) | h
  · exact .inl (.inl (e _ _ h))
  · exact .inl (.inr ⟨o, e _ _ h⟩)
  · exact .inr h
theorem ite3 {b : Bool} {A B : Prop} (h1 : b = true → A) (h2 : b = false → B) : if b = true then A else B := by
  cases b with
  | true => exact iteT (h1 rfl)
  | false => exact iteF (h2 rfl)
section
variable {X : Cx}
def rInS (K : PySem.W.Frag) : R2 := fun x y H Q => ∃ p xs, y = .ref p ∧ (SqL K H p xs ∨ SqT K H p xs) ∧ flatV x = true ∧ xs.all flatV = true ∧ Q (.bl (inV x xs)) H
def rNotInS (K : PySem.W.Frag) : R2 := fun x y H Q => ∃ p xs, y = .ref p ∧ (SqL K H p xs ∨ SqT K H p xs) ∧ flatV x = true ∧ xs.all flatV = true ∧ Q (.bl (!inV x xs)) H
theorem op_inS : OpR X (compareOp .In) (rInS X.K) := fun pins s σ H x y v u Q I rx ry h => op_in_seq pins s σ H x y v u Q I rx ry h
theorem op_notInS : OpR X (compareOp .NotIn) (rNotInS X.K) := fun pins s σ H x y v u Q I rx ry h => op_notIn_seq pins s σ H x y v u Q I rx ry h
end
theorem at0 {v : V} {r : List V} : atI (v :: r) 0 = some v := atI_nat (j := 0) rfl
theorem sUpd {H H1 : Hp} {p : Addr} {o : HO} (s : Same H H1) (n : H p = none) : Same H (upd H1 p o) := fun b u e => by
  rw [upd_ne (ne_of_none e n)]
  exact s b u e
/-! ### match over a value -/
structure PMC (X : Cx) (cases : List MatchCase) (t : V → TS) : Prop where
  run : ∀ (first : Bool) (pins : List (Addr × Obj)) (s : Shared) (σ : St) (H : Hp) (D : Ends) (x : V) (v : Value), Inv X pins σ H s → RelV x v → t x D σ H → wpAny (model X.prog X.w) X.A (matchCases cases X.env v first) (SP X pins D) X.xe s
def mNil : V → TS := fun _ D σ H => D.nx σ H
def mStr (z : Str) (t : TS) (u : V → TS) : V → TS := fun x D σ H => scal x (.str z) = true ∧ if decide (x = .str z) = true then t D σ H else u x D σ H
def tMatch (te : TE) (t : V → TS) : TS := fun D σ H => te σ H fun x H1 => t x D σ H1
section
variable {X : Cx}
theorem pmc_nil : PMC X [] mNil := ⟨fun _ _ _ σ H D x v I _ h => wpAny_matchCases_nil ⟨σ, H, I, h⟩⟩
theorem pmc_str {z : Str} {j : Nat} {p p2 : Pos} {body : List Stmt} {rest : List MatchCase} {t : TS} {u : V → TS} (hb : PSs X body t) (hr : PMC X rest u) : PMC X (⟨.MatchValue (.Constant (.str z) j p) p2, none, body⟩ :: rest) (mStr z t u) := by
  refine ⟨fun first pins s σ H D x v I r h => ?_⟩
  obtain ⟨hs, h⟩ := h
  refine wpAny_matchCases_cons (wpAny_matchPattern_Value ?_)
  have hz : PE X (.Constant (.str z) j p) (tC (.str z)) := pe_str
  refine thn (hz.run pins s σ H (fun y H1 => y = .str z ∧ H1 = H) I ⟨rfl, rfl⟩) fun w s1 ⟨y, H1, I1, r1, e1, e2⟩ => ?_
  subst e1; subst e2
  refine thn (op_eq pins s1 σ H1 x (.str z) v w (fun y H2 => y = .bl (decide (x = .str z)) ∧ H2 = H1) I1 r r1 ⟨hs, rfl, rfl⟩) fun c s2 ⟨y, H2, I2, r2, e1, e2⟩ => ?_
  subst e1; subst e2
  cases r2
  refine wpAny_truthy_bool ?_
  cases e : decide (x = V.str z) with
  | true =>
    rw [e] at h
    refine wpAny_assignInOrder_none ?_
    exact hb.run pins s2 σ H2 D I2 (by simpa using h)
  | false =>
    rw [e] at h
    exact hr.run false pins s2 σ H2 D x v I2 r (by simpa using h)
theorem ps_match {e : Expr} {cs : List MatchCase} {pos : Pos} {te : TE} {t : V → TS} (he : PE X e te) (hc : PMC X cs t) : PS X (.Match e cs pos) (tMatch te t) := by
  refine ⟨fun pins s σ H D I h => ?_⟩
  exact wpAny_Match (thn (he.run pins s σ H _ I h) fun v s1 ⟨x, H1, I1, r1, q1⟩ => hc.run true pins s1 σ H1 D x v I1 r1 q1)
/-- isinstance(e, c) in a suite, whatever the caught class is -/
def rIsEx (K : PySem.W.Frag) (a : Addr) (cls : Value) (d : Option Addr) : List V → Hp → VK → Prop := fun xs H Q => ∃ D, cls = .ref D ∧ d = none ∧ ExcC K D ∧ rIsE K D a xs H Q
theorem call_isEx {a : Addr} {cls : Value} {d : Option Addr} {oe : Obj} {pn : List (Addr × Obj)} (hz : Zc cls d oe) (hf : ∃ vs, oe.data = .fields vs) : CallR (X.suite a ((a, oe) :: pn)) (.builtin "isinstance") (rIsEx X.K a cls d) := by
  intro pins s σ H xs us Q I r h
  obtain ⟨D, rfl, rfl, C, h⟩ := h
  exact call_isE C hz hf pins s σ H xs us Q I r h
end
theorem kit_self {K : PySem.W.Frag} {D : Addr} : PySem.W.kitOne K (.ref D) (.ref D) = some true := by
  unfold PySem.W.kitOne
  rw [if_pos (by simp)]
theorem kit_no {K : PySem.W.Frag} {D C : Addr} (h : PySem.W.subIn K (.ref D) (.ref C) = some false) (hs : PySem.W.subIn K (.ref C) (.ref C) = some true) (h2 : PySem.W.isClsIn K C = true) (h3 : PySem.W.typeIn K (.ref C) = some (.type "type")) :
    PySem.W.kitOne K (.ref D) (.ref C) = some false := by
  have ne : ¬ ((Value.ref D == Value.ref C) = true) := fun e => by
    have e' : D = C := by simpa using e
    subst e'
    rw [h] at hs
    exact nomatch hs
  have e2 : ((PySem.W.clsIn K C).isSome && PySem.W.typeIn K (.ref C) == some (.type "type")) = true := by
    have h2' : (PySem.W.clsIn K C).isSome = true := h2
    rw [h2', h3] <;> rfl
  unfold PySem.W.kitOne
  rw [if_neg ne]
  show (if ((PySem.W.clsIn K C).isSome && PySem.W.typeIn K (.ref C) == some (.type "type")) = true then PySem.W.subIn K (.ref D) (.ref C) else none) = some false
  rw [if_pos e2]
  exact h
theorem kit_sub {K : PySem.W.Frag} {D C : Addr} {b : Bool} (h : PySem.W.subIn K (.ref D) (.ref C) = some b) (hs : b = false → PySem.W.subIn K (.ref C) (.ref C) = some true) (h2 : PySem.W.isClsIn K C = true) (h3 : PySem.W.typeIn K (.ref C) = some (.type "type")) :
    PySem.W.kitOne K (.ref D) (.ref C) = some b := by
  cases b with
  | false => exact kit_no h (hs rfl) h2 h3
  | true =>
    have e2 : ((PySem.W.clsIn K C).isSome && PySem.W.typeIn K (.ref C) == some (.type "type")) = true := by
      have h2' : (PySem.W.clsIn K C).isSome = true := h2
      rw [h2', h3] <;> rfl
    unfold PySem.W.kitOne
    split
    · rfl
    · show (if ((PySem.W.clsIn K C).isSome && PySem.W.typeIn K (.ref C) == some (.type "type")) = true then PySem.W.subIn K (.ref D) (.ref C) else none) = some true
      rw [if_pos e2]
      exact h
theorem kit_bt {K : PySem.W.Frag} {D : Addr} {n : String} {b : Bool} (hm : PySem.W.kitMeta n = true) (h : PySem.W.subIn K (.ref D) (.type n) = some b) : PySem.W.kitOne K (.ref D) (.type n) = some b := by
  unfold PySem.W.kitOne
  rw [if_neg (by simp)]
  show (if PySem.W.kitMeta n = true then PySem.W.subIn K (.ref D) (.type n) else none) = some b
  rw [if_pos hm]
  exact h
/-! ### a method that may raise, called in a try -/
section
variable {X : Cx} {CX : CXT} {k : Nat} {f C : Addr} {fd : FuncData} {ps : List Str} {sp : Sp} {E : St → XK} {m : Str} {pos apos : Pos} {e o : Expr} {es : List Expr} {ta : TE} {t : TA}
def tMethE (C : Addr) (m : Str) (sp : Sp) (E : St → XK) (ta : TE) (t : TA) : TE := fun σ H Q => ta σ H fun x H1 => ∃ a dx fs, x = .ref a ∧ H1 a = some (.ins C dx fs) ∧ fs.lookup m = none ∧ t σ H1 fun vs H2 => sp (x :: vs) H2 Q (E σ)
theorem pe_methE0 {pl : Sem Bool} (he : PE X o ta) (c : Cls X.K C) (hm : Meth X.K C m f) (F : FnOk X.prog X.w X.K X.mg X.base CX k f fd ps sp) (hr : Room k X.A) (hb : Binds X.K fd ps []) (hx : ∀ σ, PassesAt CX X σ (E σ))
    (ht : eval (.Call (.Attribute o m apos) [] [] pos) X.env = (do
      let ov ← eval o X.env
      standAt apos.atName
      let (f, first) ← holding [ov] (getMethod ov m pl)
      callWith pos f first (backTo pos (starEach [] X.env)) (backToKw pos (keywordEach [] X.env))) := by rfl) :
    PE X (.Call (.Attribute o m apos) [] [] pos) (tMethE C m sp E ta tNil) := by
  refine ⟨fun pins s σ H Q I h => ?_⟩
  refine PySem.W.methodCall_KW (pl := pl) (thn (he.run pins s σ H _ I h) fun u s1 ⟨x, H1, I1, rx, a, dx, fs, ex, ea, l, q⟩ => ?_) ht
  subst ex
  obtain rfl : u = Value.ref a := rx
  refine getmeth_ok I1 ea c hm l ?_
  exact PySem.W.callWith_K0 (first := [.ref a]) I1.kIn hm.kp (run_fnS (us := [.ref a]) (vs := [.ref a]) F hr hb (hx σ) I1 (.cons rfl .nil) q)
theorem pe_methE {pl : Sem Bool} (he : PE X o ta) (c : Cls X.K C) (hm : Meth X.K C m f) (F : FnOk X.prog X.w X.K X.mg X.base CX k f fd ps sp) (hr : Room k X.A) (hb : Binds X.K fd ps []) (hx : ∀ σ, PassesAt CX X σ (E σ)) (ha : PA X (e :: es) t)
    (hst : starEach (e :: es) X.env = (false, eval e X.env) :: starEach es X.env := by rfl) (hpl : (backTo pos (starEach es X.env)).any (·.1) = false := by rfl)
    (ht : eval (.Call (.Attribute o m apos) (e :: es) [] pos) X.env = (do
      let ov ← eval o X.env
      standAt apos.atName
      let (f, first) ← holding [ov] (getMethod ov m pl)
      callWith pos f first (backTo pos (starEach (e :: es) X.env)) (backToKw pos (keywordEach [] X.env))) := by rfl) :
    PE X (.Call (.Attribute o m apos) (e :: es) [] pos) (tMethE C m sp E ta t) := by
  refine ⟨fun pins s σ H Q I h => ?_⟩
  refine PySem.W.methodCall_KW (pl := pl) (thn (he.run pins s σ H _ I h) fun u s1 ⟨x, H1, I1, rx, a, dx, fs, ex, ea, l, q⟩ => ?_) ht
  subst ex
  obtain rfl : u = Value.ref a := rx
  refine getmeth_ok I1 ea c hm l ?_
  refine PySem.W.callWith_K (first := [.ref a]) (h₀ := X.base) I.ok.mod.kin hm.kp (thn (ha.run pos pins s1 σ H1 _ I1 q) fun us s2 ⟨vs, H2, I2, r, q2⟩ => ⟨I2.kIn, ?_⟩) hst hpl
  exact run_fnS (us := .ref a :: us) (vs := .ref a :: vs) F hr hb (hx σ) I2 (.cons rfl r) q2
end
def spNever : Sp := fun _ _ _ _ => False
theorem tyx_tup {K : PySem.W.Frag} {H : Hp} {a : Addr} {xs : List V} (h : SqT K H a xs) : TyX K H (.ref a) (.type "tuple") := by
  rcases h with (h | ⟨o, h⟩) | ⟨o, its, n, hk, hc, _⟩
  · exact .base (.tup h)
  · exact .fTuple h
  · exact .kTuple hk hc

def top (i : Nat) : Stmt := PySem.Challenge.pw_windowada_k41_reached.main.body.getD i (.Pass ⟨0, 0, 0, 0⟩)
abbrev s_Unit___init__ : Stmt := inClass (top 3) 0
abbrev s_Module___init__ : Stmt := inClass (top 4) 0
abbrev s_can_raise : Stmt := top 5
abbrev s_followers : Stmt := top 6
abbrev s_edges : Stmt := top 8
abbrev s_reached : Stmt := top 9
abbrev s_taken_regions : Stmt := top 10
abbrev s_first_free : Stmt := top 11
abbrev s_law_mixed : Stmt := top 13
abbrev s_law_state : Stmt := top 14
abbrev s_law_draw : Stmt := top 15
abbrev s_law_same : Stmt := top 16
abbrev s_law_word : Stmt := top 17
abbrev s_law_operand : Stmt := top 18
abbrev s_law_cells : Stmt := top 19
abbrev s_law_straight : Stmt := top 20
abbrev s_law_joined : Stmt := top 21
abbrev s_law_handler : Stmt := top 22
abbrev s_law_part : Stmt := top 23
abbrev s_law_piece : Stmt := top 24
abbrev s_law_code : Stmt := top 25
abbrev s_law_free : Stmt := top 26
abbrev s_law_any_code : Stmt := top 27
abbrev s_law_heads : Stmt := top 28
abbrev s_law_around : Stmt := top 29
abbrev s_law_codes : Stmt := top 30
abbrev s_law_module : Stmt := top 31
abbrev s_law_ways : Stmt := top 32
abbrev s_law_reached : Stmt := top 33
abbrev s_law : Stmt := top 34
theorem sc_Unit___init__ : FnScope ["self", "parent", "arguments", "results", "registers", "cells", "code", "regions"] ["self", "parent", "arguments", "results", "registers", "cells", "code", "regions"] (defScope s_Unit___init__) := ⟨rfl, rfl, rfl, by decide +kernel, rfl, by decide +kernel, by decide +kernel⟩
theorem sc_Module___init__ : FnScope ["self", "units", "names", "places"] ["self", "units", "names", "places"] (defScope s_Module___init__) := ⟨rfl, rfl, rfl, by decide +kernel, rfl, by decide +kernel, by decide +kernel⟩
theorem sc_can_raise : FnScope ["instruction"] ["instruction"] (defScope s_can_raise) := ⟨rfl, rfl, rfl, by decide +kernel, rfl, by decide +kernel, by decide +kernel⟩
theorem sc_followers : FnScope ["instruction", "index", "name", "behind"] ["instruction", "index"] (defScope s_followers) := ⟨rfl, rfl, rfl, by decide +kernel, rfl, by decide +kernel, by decide +kernel⟩
theorem sc_edges : FnScope ["unit", "ways", "index", "instruction", "region", "onward"] ["unit"] (defScope s_edges) := ⟨rfl, rfl, rfl, by decide +kernel, rfl, by decide +kernel, by decide +kernel⟩
theorem sc_reached : FnScope ["unit", "ways", "found", "pending", "index", "is_found"] ["unit"] (defScope s_reached) := ⟨rfl, rfl, rfl, by decide +kernel, rfl, by decide +kernel, by decide +kernel⟩
theorem sc_taken_regions : FnScope ["unit", "size", "taken", "onward", "region", "index"] ["unit"] (defScope s_taken_regions) := ⟨rfl, rfl, rfl, by decide +kernel, rfl, by decide +kernel, by decide +kernel⟩
theorem sc_first_free : FnScope ["onward", "index"] ["onward", "index"] (defScope s_first_free) := ⟨rfl, rfl, rfl, by decide +kernel, rfl, by decide +kernel, by decide +kernel⟩
theorem sc_law_mixed : FnScope ["number", "count", "first", "second"] ["number", "count"] (defScope s_law_mixed) := ⟨rfl, rfl, rfl, by decide +kernel, rfl, by decide +kernel, by decide +kernel⟩
theorem sc_law_state : FnScope ["script", "budget"] ["script", "budget"] (defScope s_law_state) := ⟨rfl, rfl, rfl, by decide +kernel, rfl, by decide +kernel, by decide +kernel⟩
theorem sc_law_draw : FnScope ["state", "many", "cells", "cell", "digit"] ["state", "many"] (defScope s_law_draw) := ⟨rfl, rfl, rfl, by decide +kernel, rfl, by decide +kernel, by decide +kernel⟩
theorem sc_law_same : FnScope ["actual", "due", "k"] ["actual", "due"] (defScope s_law_same) := ⟨rfl, rfl, rfl, by decide +kernel, rfl, by decide +kernel, by decide +kernel⟩
theorem sc_law_word : FnScope ["state", "choice"] ["state"] (defScope s_law_word) := ⟨rfl, rfl, rfl, by decide +kernel, rfl, by decide +kernel, by decide +kernel⟩
theorem sc_law_operand : FnScope ["state", "room"] ["state", "room"] (defScope s_law_operand) := ⟨rfl, rfl, rfl, by decide +kernel, rfl, by decide +kernel, by decide +kernel⟩
theorem sc_law_cells : FnScope ["state", "room", "hops", "k", "chosen", "cell", "count", "number"] ["state", "room"] (defScope s_law_cells) := ⟨rfl, rfl, rfl, by decide +kernel, rfl, by decide +kernel, by decide +kernel⟩
theorem sc_law_straight : FnScope ["state", "room", "d", "x", "y", "p", "choice", "pair", "before", "hops", "cell", "count", "index", "unit", "arguments", "results", "values", "k"] ["state", "room"] (defScope s_law_straight) := ⟨rfl, rfl, rfl, by decide +kernel, rfl, by decide +kernel, by decide +kernel⟩
theorem sc_law_joined : FnScope ["first", "second", "more", "moved", "a", "b", "c", "d", "e"] ["first", "second"] (defScope s_law_joined) := ⟨rfl, rfl, rfl, by decide +kernel, rfl, by decide +kernel, by decide +kernel⟩
theorem sc_law_handler : FnScope ["state", "room", "depth", "number", "place", "choice"] ["state", "room", "depth", "number", "place"] (defScope s_law_handler) := ⟨rfl, rfl, rfl, by decide +kernel, rfl, by decide +kernel, by decide +kernel⟩
theorem sc_law_part : FnScope ["state", "room", "depth", "choice", "one", "x", "two", "head", "number", "place", "size", "body"] ["state", "room", "depth"] (defScope s_law_part) := ⟨rfl, rfl, rfl, by decide +kernel, rfl, by decide +kernel, by decide +kernel⟩
theorem sc_law_piece : FnScope ["state", "room", "depth", "piece", "k"] ["state", "room", "depth"] (defScope s_law_piece) := ⟨rfl, rfl, rfl, by decide +kernel, rfl, by decide +kernel, by decide +kernel⟩
theorem sc_law_code : FnScope ["state", "room", "results", "piece", "values", "k", "code", "instruction"] ["state", "room", "results"] (defScope s_law_code) := ⟨rfl, rfl, rfl, by decide +kernel, rfl, by decide +kernel, by decide +kernel⟩
theorem sc_law_free : FnScope ["state", "room", "results", "code", "k", "choice", "regions", "start", "stop", "entry", "number", "place", "index", "target"] ["state", "room", "results"] (defScope s_law_free) := ⟨rfl, rfl, rfl, by decide +kernel, rfl, by decide +kernel, by decide +kernel⟩
theorem sc_law_any_code : FnScope ["state", "room", "results"] ["state", "room", "results"] (defScope s_law_any_code) := ⟨rfl, rfl, rfl, by decide +kernel, rfl, by decide +kernel, by decide +kernel⟩
theorem sc_law_heads : FnScope ["state", "many", "heads", "number", "arguments", "results", "parent"] ["state", "many"] (defScope s_law_heads) := ⟨rfl, rfl, rfl, by decide +kernel, rfl, by decide +kernel, by decide +kernel⟩
theorem sc_law_around : FnScope ["heads", "number", "around", "k"] ["heads", "number"] (defScope s_law_around) := ⟨rfl, rfl, rfl, by decide +kernel, rfl, by decide +kernel, by decide +kernel⟩
theorem sc_law_codes : FnScope ["state", "heads", "codes", "number", "around", "called", "other", "room", "k"] ["state", "heads"] (defScope s_law_codes) := ⟨rfl, rfl, rfl, by decide +kernel, rfl, by decide +kernel, by decide +kernel⟩
theorem sc_law_module : FnScope ["heads", "codes", "units", "k", "parent", "arguments", "results", "registers", "cells", "names"] ["heads", "codes"] (defScope s_law_module) := ⟨rfl, rfl, rfl, by decide +kernel, rfl, by decide +kernel, by decide +kernel⟩
theorem sc_law_ways : FnScope ["code", "regions", "index", "instruction", "found", "raising", "entries", "region"] ["code", "regions", "index"] (defScope s_law_ways) := ⟨rfl, rfl, rfl, by decide +kernel, rfl, by decide +kernel, by decide +kernel⟩
theorem sc_law_reached : FnScope ["code", "regions", "seen", "index", "k", "before", "way"] ["code", "regions"] (defScope s_law_reached) := ⟨rfl, rfl, rfl, by decide +kernel, rfl, by decide +kernel, by decide +kernel⟩
theorem sc_law : FnScope ["script", "state", "heads", "codes", "module", "k"] ["script"] (defScope s_law) := ⟨rfl, rfl, rfl, by decide +kernel, rfl, by decide +kernel, by decide +kernel⟩
structure Ad where
  f_Unit___init__ : Addr
  d_Unit___init__ : FuncData
  f_Module___init__ : Addr
  d_Module___init__ : FuncData
  f_can_raise : Addr
  d_can_raise : FuncData
  f_followers : Addr
  d_followers : FuncData
  f_edges : Addr
  d_edges : FuncData
  f_reached : Addr
  d_reached : FuncData
  f_taken_regions : Addr
  d_taken_regions : FuncData
  f_first_free : Addr
  d_first_free : FuncData
  f_law_mixed : Addr
  d_law_mixed : FuncData
  f_law_state : Addr
  d_law_state : FuncData
  f_law_draw : Addr
  d_law_draw : FuncData
  f_law_same : Addr
  d_law_same : FuncData
  f_law_word : Addr
  d_law_word : FuncData
  f_law_operand : Addr
  d_law_operand : FuncData
  f_law_cells : Addr
  d_law_cells : FuncData
  f_law_straight : Addr
  d_law_straight : FuncData
  f_law_joined : Addr
  d_law_joined : FuncData
  f_law_handler : Addr
  d_law_handler : FuncData
  f_law_part : Addr
  d_law_part : FuncData
  f_law_piece : Addr
  d_law_piece : FuncData
  f_law_code : Addr
  d_law_code : FuncData
  f_law_free : Addr
  d_law_free : FuncData
  f_law_any_code : Addr
  d_law_any_code : FuncData
  f_law_heads : Addr
  d_law_heads : FuncData
  f_law_around : Addr
  d_law_around : FuncData
  f_law_codes : Addr
  d_law_codes : FuncData
  f_law_module : Addr
  d_law_module : FuncData
  f_law_ways : Addr
  d_law_ways : FuncData
  f_law_reached : Addr
  d_law_reached : FuncData
  f_law : Addr
  d_law : FuncData
  c_LEAVING : Addr
  c_RAISING : Addr
  C_Unit : Addr
  C_Module : Addr
structure Txt (K : PySem.W.Frag) (mg : Str → Option Value) (a : Ad) : Prop where
  F_Unit___init__ : Fun K "__init__" "Unit.__init__" s_Unit___init__ a.f_Unit___init__ a.d_Unit___init__
  k_Unit___init__ : PySem.W.keepIn K (.ref a.f_Unit___init__) = true
  bd_Unit___init__ : Binds K a.d_Unit___init__ ["self", "parent", "arguments", "results", "registers", "cells", "code", "regions"] []
  F_Module___init__ : Fun K "__init__" "Module.__init__" s_Module___init__ a.f_Module___init__ a.d_Module___init__
  k_Module___init__ : PySem.W.keepIn K (.ref a.f_Module___init__) = true
  bd_Module___init__ : Binds K a.d_Module___init__ ["self", "units", "names", "places"] []
  g_can_raise : mg "can_raise" = some (.ref a.f_can_raise)
  F_can_raise : Fun K "can_raise" "can_raise" s_can_raise a.f_can_raise a.d_can_raise
  k_can_raise : PySem.W.keepIn K (.ref a.f_can_raise) = true
  bd_can_raise : Binds K a.d_can_raise ["instruction"] []
  g_followers : mg "followers" = some (.ref a.f_followers)
  F_followers : Fun K "followers" "followers" s_followers a.f_followers a.d_followers
  k_followers : PySem.W.keepIn K (.ref a.f_followers) = true
  bd_followers : Binds K a.d_followers ["instruction", "index"] []
  g_edges : mg "edges" = some (.ref a.f_edges)
  F_edges : Fun K "edges" "edges" s_edges a.f_edges a.d_edges
  k_edges : PySem.W.keepIn K (.ref a.f_edges) = true
  bd_edges : Binds K a.d_edges ["unit"] []
  g_reached : mg "reached" = some (.ref a.f_reached)
  F_reached : Fun K "reached" "reached" s_reached a.f_reached a.d_reached
  k_reached : PySem.W.keepIn K (.ref a.f_reached) = true
  bd_reached : Binds K a.d_reached ["unit"] []
  g_taken_regions : mg "taken_regions" = some (.ref a.f_taken_regions)
  F_taken_regions : Fun K "taken_regions" "taken_regions" s_taken_regions a.f_taken_regions a.d_taken_regions
  k_taken_regions : PySem.W.keepIn K (.ref a.f_taken_regions) = true
  bd_taken_regions : Binds K a.d_taken_regions ["unit"] []
  g__first_free : mg "_first_free" = some (.ref a.f_first_free)
  F__first_free : Fun K "_first_free" "_first_free" s_first_free a.f_first_free a.d_first_free
  k__first_free : PySem.W.keepIn K (.ref a.f_first_free) = true
  bd__first_free : Binds K a.d_first_free ["onward", "index"] []
  g__law_mixed : mg "_law_mixed" = some (.ref a.f_law_mixed)
  F__law_mixed : Fun K "_law_mixed" "_law_mixed" s_law_mixed a.f_law_mixed a.d_law_mixed
  k__law_mixed : PySem.W.keepIn K (.ref a.f_law_mixed) = true
  bd__law_mixed : Binds K a.d_law_mixed ["number", "count"] []
  g__law_state : mg "_law_state" = some (.ref a.f_law_state)
  F__law_state : Fun K "_law_state" "_law_state" s_law_state a.f_law_state a.d_law_state
  k__law_state : PySem.W.keepIn K (.ref a.f_law_state) = true
  bd__law_state : Binds K a.d_law_state ["script", "budget"] []
  g__law_draw : mg "_law_draw" = some (.ref a.f_law_draw)
  F__law_draw : Fun K "_law_draw" "_law_draw" s_law_draw a.f_law_draw a.d_law_draw
  k__law_draw : PySem.W.keepIn K (.ref a.f_law_draw) = true
  bd__law_draw : Binds K a.d_law_draw ["state", "many"] []
  g__law_same : mg "_law_same" = some (.ref a.f_law_same)
  F__law_same : Fun K "_law_same" "_law_same" s_law_same a.f_law_same a.d_law_same
  k__law_same : PySem.W.keepIn K (.ref a.f_law_same) = true
  bd__law_same : Binds K a.d_law_same ["actual", "due"] []
  g__law_word : mg "_law_word" = some (.ref a.f_law_word)
  F__law_word : Fun K "_law_word" "_law_word" s_law_word a.f_law_word a.d_law_word
  k__law_word : PySem.W.keepIn K (.ref a.f_law_word) = true
  bd__law_word : Binds K a.d_law_word ["state"] []
  g__law_operand : mg "_law_operand" = some (.ref a.f_law_operand)
  F__law_operand : Fun K "_law_operand" "_law_operand" s_law_operand a.f_law_operand a.d_law_operand
  k__law_operand : PySem.W.keepIn K (.ref a.f_law_operand) = true
  bd__law_operand : Binds K a.d_law_operand ["state", "room"] []
  g__law_cells : mg "_law_cells" = some (.ref a.f_law_cells)
  F__law_cells : Fun K "_law_cells" "_law_cells" s_law_cells a.f_law_cells a.d_law_cells
  k__law_cells : PySem.W.keepIn K (.ref a.f_law_cells) = true
  bd__law_cells : Binds K a.d_law_cells ["state", "room"] []
  g__law_straight : mg "_law_straight" = some (.ref a.f_law_straight)
  F__law_straight : Fun K "_law_straight" "_law_straight" s_law_straight a.f_law_straight a.d_law_straight
  k__law_straight : PySem.W.keepIn K (.ref a.f_law_straight) = true
  bd__law_straight : Binds K a.d_law_straight ["state", "room"] []
  g__law_joined : mg "_law_joined" = some (.ref a.f_law_joined)
  F__law_joined : Fun K "_law_joined" "_law_joined" s_law_joined a.f_law_joined a.d_law_joined
  k__law_joined : PySem.W.keepIn K (.ref a.f_law_joined) = true
  bd__law_joined : Binds K a.d_law_joined ["first", "second"] []
  g__law_handler : mg "_law_handler" = some (.ref a.f_law_handler)
  F__law_handler : Fun K "_law_handler" "_law_handler" s_law_handler a.f_law_handler a.d_law_handler
  k__law_handler : PySem.W.keepIn K (.ref a.f_law_handler) = true
  bd__law_handler : Binds K a.d_law_handler ["state", "room", "depth", "number", "place"] []
  g__law_part : mg "_law_part" = some (.ref a.f_law_part)
  F__law_part : Fun K "_law_part" "_law_part" s_law_part a.f_law_part a.d_law_part
  k__law_part : PySem.W.keepIn K (.ref a.f_law_part) = true
  bd__law_part : Binds K a.d_law_part ["state", "room", "depth"] []
  g__law_piece : mg "_law_piece" = some (.ref a.f_law_piece)
  F__law_piece : Fun K "_law_piece" "_law_piece" s_law_piece a.f_law_piece a.d_law_piece
  k__law_piece : PySem.W.keepIn K (.ref a.f_law_piece) = true
  bd__law_piece : Binds K a.d_law_piece ["state", "room", "depth"] []
  g__law_code : mg "_law_code" = some (.ref a.f_law_code)
  F__law_code : Fun K "_law_code" "_law_code" s_law_code a.f_law_code a.d_law_code
  k__law_code : PySem.W.keepIn K (.ref a.f_law_code) = true
  bd__law_code : Binds K a.d_law_code ["state", "room", "results"] []
  g__law_free : mg "_law_free" = some (.ref a.f_law_free)
  F__law_free : Fun K "_law_free" "_law_free" s_law_free a.f_law_free a.d_law_free
  k__law_free : PySem.W.keepIn K (.ref a.f_law_free) = true
  bd__law_free : Binds K a.d_law_free ["state", "room", "results"] []
  g__law_any_code : mg "_law_any_code" = some (.ref a.f_law_any_code)
  F__law_any_code : Fun K "_law_any_code" "_law_any_code" s_law_any_code a.f_law_any_code a.d_law_any_code
  k__law_any_code : PySem.W.keepIn K (.ref a.f_law_any_code) = true
  bd__law_any_code : Binds K a.d_law_any_code ["state", "room", "results"] []
  g__law_heads : mg "_law_heads" = some (.ref a.f_law_heads)
  F__law_heads : Fun K "_law_heads" "_law_heads" s_law_heads a.f_law_heads a.d_law_heads
  k__law_heads : PySem.W.keepIn K (.ref a.f_law_heads) = true
  bd__law_heads : Binds K a.d_law_heads ["state", "many"] []
  g__law_around : mg "_law_around" = some (.ref a.f_law_around)
  F__law_around : Fun K "_law_around" "_law_around" s_law_around a.f_law_around a.d_law_around
  k__law_around : PySem.W.keepIn K (.ref a.f_law_around) = true
  bd__law_around : Binds K a.d_law_around ["heads", "number"] []
  g__law_codes : mg "_law_codes" = some (.ref a.f_law_codes)
  F__law_codes : Fun K "_law_codes" "_law_codes" s_law_codes a.f_law_codes a.d_law_codes
  k__law_codes : PySem.W.keepIn K (.ref a.f_law_codes) = true
  bd__law_codes : Binds K a.d_law_codes ["state", "heads"] []
  g__law_module : mg "_law_module" = some (.ref a.f_law_module)
  F__law_module : Fun K "_law_module" "_law_module" s_law_module a.f_law_module a.d_law_module
  k__law_module : PySem.W.keepIn K (.ref a.f_law_module) = true
  bd__law_module : Binds K a.d_law_module ["heads", "codes"] []
  g__law_ways : mg "_law_ways" = some (.ref a.f_law_ways)
  F__law_ways : Fun K "_law_ways" "_law_ways" s_law_ways a.f_law_ways a.d_law_ways
  k__law_ways : PySem.W.keepIn K (.ref a.f_law_ways) = true
  bd__law_ways : Binds K a.d_law_ways ["code", "regions", "index"] []
  g__law_reached : mg "_law_reached" = some (.ref a.f_law_reached)
  F__law_reached : Fun K "_law_reached" "_law_reached" s_law_reached a.f_law_reached a.d_law_reached
  k__law_reached : PySem.W.keepIn K (.ref a.f_law_reached) = true
  bd__law_reached : Binds K a.d_law_reached ["code", "regions"] []
  g_law : mg "law" = some (.ref a.f_law)
  F_law : Fun K "law" "law" s_law a.f_law a.d_law
  k_law : PySem.W.keepIn K (.ref a.f_law) = true
  bd_law : Binds K a.d_law ["script"] []
  g_LEAVING : mg "LEAVING" = some (.ref a.c_LEAVING)
  q_LEAVING : ∀ H : Hp, SqT K H a.c_LEAVING [.str "return", .str "raise", .str "again"]
  g_RAISING : mg "RAISING" = some (.ref a.c_RAISING)
  q_RAISING : ∀ H : Hp, SqT K H a.c_RAISING [.str "neg", .str "abs", .str "add", .str "sub", .str "mul", .str "div", .str "mod", .str "rem", .str "check", .str "call", .str "raise", .str "again", .str "get"]
  b_abs : mg "abs" = none
  b_all : mg "all" = none
  b_bool : mg "bool" = none
  b_enumerate : mg "enumerate" = none
  b_int : mg "int" = none
  b_isinstance : mg "isinstance" = none
  b_len : mg "len" = none
  b_list : mg "list" = none
  b_max : mg "max" = none
  b_min : mg "min" = none
  b_range : mg "range" = none
  b_set : mg "set" = none
  b_sorted : mg "sorted" = none
  b_str : mg "str" = none
  b_sum : mg "sum" = none
  b_tuple : mg "tuple" = none
  b_zip : mg "zip" = none
  g_Unit : mg "Unit" = some (.ref a.C_Unit)
  cl_Unit : Cls K a.C_Unit
  mk_Unit : Mk K a.C_Unit a.f_Unit___init__
  n_Unit_parent : NoAttr K a.C_Unit "parent"
  n_Unit_arguments : NoAttr K a.C_Unit "arguments"
  n_Unit_results : NoAttr K a.C_Unit "results"
  n_Unit_registers : NoAttr K a.C_Unit "registers"
  n_Unit_cells : NoAttr K a.C_Unit "cells"
  n_Unit_code : NoAttr K a.C_Unit "code"
  n_Unit_regions : NoAttr K a.C_Unit "regions"
  g_Module : mg "Module" = some (.ref a.C_Module)
  cl_Module : Cls K a.C_Module
  mk_Module : Mk K a.C_Module a.f_Module___init__
  n_Module_units : NoAttr K a.C_Module "units"
  n_Module_names : NoAttr K a.C_Module "names"
  n_Module_places : NoAttr K a.C_Module "places"
/-! ### rules of a block over a fixed K -/
theorem ix_tupK {X : Cx} {K : PySem.W.Frag} (h : X.K = K) : IxR X (rIxT K) := by
  subst h
  exact ix_tup
theorem ix_listK {X : Cx} {K : PySem.W.Frag} (h : X.K = K) : IxR X (rIxL K) := by
  subst h
  exact ix_list
theorem call_isiK {X : Cx} {K : PySem.W.Frag} (h : X.K = K) : CallR X (.builtin "isinstance") (rIsi K) := by
  subst h
  exact call_isi
theorem sTr {H H1 H2 : Hp} (x : Same H H1) (y : Same H1 H2) : Same H H2 := fun b o e => y b o (x b o e)
/-! ### data without lists -/
mutual
inductive DT (K : PySem.W.Frag) (H : Hp) : V → PyData → Prop
  | non : DT K H .non .none
  | bl (b : Bool) : DT K H (.bl b) (.bool b)
  | int (i : Int) : DT K H (.int i) (.int i)
  | str (x : Str) : DT K H (.str x) (.str x)
  | tup {a : Addr} {xs : List V} {ds : List PyData} : SqT K H a xs → DTs K H xs ds → DT K H (.ref a) (.tuple ds)
inductive DTs (K : PySem.W.Frag) (H : Hp) : List V → List PyData → Prop
  | nil : DTs K H [] []
  | cons {v : V} {vs : List V} {d : PyData} {ds : List PyData} : DT K H v d → DTs K H vs ds → DTs K H (v :: vs) (d :: ds)
end
section
variable {K : PySem.W.Frag} {H H' H2 : Hp}
theorem DTs.len : ∀ {vs : List V} {ds : List PyData}, DTs K H vs ds → vs.length = ds.length
  | _, _, .nil => rfl
  | _, _, .cons _ r => congrArg (· + 1) r.len
theorem DTs.get : ∀ {vs : List V} {ds : List PyData} {i : Nat} {d : PyData}, DTs K H vs ds → ds[i]? = some d → ∃ v, vs[i]? = some v ∧ DT K H v d
  | _, _, _, _, .nil, e => by simp at e
  | _, _, 0, _, .cons h _, e => by
    obtain rfl := Option.some.inj e
    exact ⟨_, rfl, h⟩
  | _, _, i + 1, d, .cons _ r, e => by
    obtain ⟨v, h1, h2⟩ := r.get (i := i) (d := d) (by simpa using e)
    exact ⟨v, by simpa using h1, h2⟩
theorem DTs.at : ∀ {vs : List V} {ds : List PyData} {i : Nat} {v : V}, DTs K H vs ds → vs[i]? = some v → ∃ d, ds[i]? = some d ∧ DT K H v d
  | _, _, _, _, .nil, e => by simp at e
  | _, _, 0, _, .cons h _, e => by
    obtain rfl := Option.some.inj e
    exact ⟨_, rfl, h⟩
  | _, _, i + 1, v, .cons _ r, e => by
    obtain ⟨d, h1, h2⟩ := r.at (i := i) (v := v) (by simpa using e)
    exact ⟨d, by simpa using h1, h2⟩
theorem DTs.app : ∀ {vs ws : List V} {ds es : List PyData}, DTs K H vs ds → DTs K H ws es → DTs K H (vs ++ ws) (ds ++ es)
  | _, _, _, _, .nil, s => s
  | _, _, _, _, .cons h r, s => .cons h (r.app s)
/-- tuples stay -/
def KT (K : PySem.W.Frag) (H H' : Hp) : Prop := ∀ a xs, SqT K H a xs → SqT K H' a xs
theorem KT.same (s : Same H H') : KT K H H' := fun _ _ h => seqT s h
theorem KT.tr (x : KT K H H') (y : KT K H' H2) : KT K H H2 := fun a xs h => y a xs (x a xs h)
theorem KT.put {p : Addr} {ys : List V} {o : HO} (e : H p = some (.lst ys)) : KT K H (upd H p o) := fun a xs h => by
  rcases h with (h | ⟨u, h⟩) | h
  · exact .inl (.inl (by rw [upd_ne (ne_of h e fun z => nomatch z)]; exact h))
  · exact .inl (.inr ⟨u, by rw [upd_ne (ne_of h e fun z => nomatch z)]; exact h⟩)
  · exact .inr h
theorem KT.new {p : Addr} {o : HO} (n : H p = none) : KT K H (upd H p o) := .same (sN (Same.refl H) n)
mutual
theorem DT.keep (k : KT K H H') : ∀ {v : V} {d : PyData}, DT K H v d → DT K H' v d
  | _, _, .non => .non
  | _, _, .bl b => .bl b
  | _, _, .int b => .int b
  | _, _, .str b => .str b
  | _, _, .tup h r => .tup (k _ _ h) (r.keep k)
theorem DTs.keep (k : KT K H H') : ∀ {vs : List V} {ds : List PyData}, DTs K H vs ds → DTs K H' vs ds
  | _, _, .nil => .nil
  | _, _, .cons h r => .cons (h.keep k) (r.keep k)
end
def isTup : PyData → Bool
  | .tuple _ => true
  | _ => false
theorem DT.isT {v : V} {d : PyData} (h : DT K H v d) : ∃ t, TyX K H v t ∧ PySem.W.kitOne K t (.type "tuple") = some (isTup d) := by
  cases h with
  | non => exact ⟨_, .base .non, kit_ty (by decide +kernel : kitB "NoneType" "tuple" = some false)⟩
  | bl b => exact ⟨_, .base (.bl b), kit_ty (by decide +kernel : kitB "bool" "tuple" = some false)⟩
  | int b => exact ⟨_, .base (.int b), kit_ty (by decide +kernel : kitB "int" "tuple" = some false)⟩
  | str b => exact ⟨_, .base (.str b), kit_ty (by decide +kernel : kitB "str" "tuple" = some false)⟩
  | tup h r => exact ⟨_, tyx_tup h, kit_ty (by decide +kernel : kitB "tuple" "tuple" = some true)⟩
end

/-! ### the program: operands, reads, writes, followers, regions -/
abbrev Op := Str × Int
def opD (g : Op) : PyData := .tuple [.str g.1, .int g.2]
def rdOf (gs : List Op) : List PyData := (gs.filter fun g => decide (g.1 = ("reg" : Str))).map fun g => .int g.2
def OpsOk (nm : Str) (D : List PyData) (gs : List PyData) : Prop :=
  (nm = "call" ∧ D[3]? = some (.tuple gs)) ∨ (nm = "return" ∧ D[1]? = some (.tuple gs)) ∨ (nm ≠ "call" ∧ nm ≠ "return" ∧ gs = D.filter isTup)
def wrs : List V := [.str "move", .str "neg", .str "abs", .str "add", .str "sub", .str "mul", .str "div", .str "mod", .str "rem", .str "less", .str "equal", .str "load", .str "get"]
def rss : List V := [.str "neg", .str "abs", .str "add", .str "sub", .str "mul", .str "div", .str "mod", .str "rem", .str "check", .str "call", .str "raise", .str "again", .str "get"]
def lvs : List V := [.str "return", .str "raise", .str "again"]
def WrOk (nm : Str) (D : List PyData) (ws : List PyData) : Prop :=
  (nm = "call" ∧ D[4]? = some (.tuple ws)) ∨ (nm ≠ "call" ∧ inV (.str nm) wrs = true ∧ ∃ d, D[1]? = some (.int d) ∧ ws = [.int d]) ∨ (nm ≠ "call" ∧ inV (.str nm) wrs = false ∧ ws = [])
def mn (x y : Int) : Int := if y < x then y else x
def mx (x y : Int) : Int := if y > x then y else x
def FoOk (nm : Str) (D : List PyData) (ix : Int) (bs : List PyData) : Prop :=
  (inV (.str nm) lvs = true ∧ bs = []) ∨ (inV (.str nm) lvs = false ∧ nm = "jump" ∧ ∃ t, D[1]? = some (.int t) ∧ bs = [.int t]) ∨
  (inV (.str nm) lvs = false ∧ nm ≠ "jump" ∧ nm = "branch" ∧ ∃ t, D[2]? = some (.int t) ∧ t ≠ ix + 1 ∧ bs = [.int (mn t (ix + 1)), .int (mx t (ix + 1))]) ∨
  (inV (.str nm) lvs = false ∧ nm ≠ "jump" ∧ nm = "branch" ∧ ∃ t, D[2]? = some (.int t) ∧ t = ix + 1 ∧ bs = [.int (ix + 1)]) ∨
  (inV (.str nm) lvs = false ∧ nm ≠ "jump" ∧ nm ≠ "branch" ∧ bs = [.int (ix + 1)])
def regD (r : List Int) : PyData := .tuple (r.map .int)
def inR (at' : Int) (r : List Int) : Bool := decide (r.getD 0 0 ≤ at') && decide (at' < r.getD 1 0)
def findR (rs : List (List Int)) (at' : Int) : PyData := match rs.find? (inR at') with
  | some r => regD r
  | none => .none
def spOps (K : PySem.W.Frag) : Sp := fun vs H Q _ => ∃ (v : V) (nm : Str) (ds : List PyData) (gs : List PyData), vs = [v] ∧ DT K H v (.tuple (.str nm :: ds)) ∧ OpsOk nm (.str nm :: ds) gs ∧ ds.length ≤ 100 ∧ ∀ u H', DT K H' u (.tuple gs) → Same H H' → Q u H'
def spRds (K : PySem.W.Frag) : Sp := fun vs H Q _ => ∃ (v : V) (nm : Str) (ds : List PyData) (gs : List Op), vs = [v] ∧ DT K H v (.tuple (.str nm :: ds)) ∧ OpsOk nm (.str nm :: ds) (gs.map opD) ∧ ds.length ≤ 100 ∧ gs.length ≤ 100 ∧ ∀ u H', DT K H' u (.tuple (rdOf gs)) → Same H H' → Q u H'
def spWrs (K : PySem.W.Frag) : Sp := fun vs H Q _ => ∃ (v : V) (nm : Str) (ds : List PyData) (ws : List PyData), vs = [v] ∧ DT K H v (.tuple (.str nm :: ds)) ∧ WrOk nm (.str nm :: ds) ws ∧ ∀ u H', DT K H' u (.tuple ws) → Same H H' → Q u H'
def spCan (K : PySem.W.Frag) : Sp := fun vs H Q _ => ∃ (v : V) (nm : Str) (ds : List PyData), vs = [v] ∧ DT K H v (.tuple (.str nm :: ds)) ∧ Q (.bl (inV (.str nm) rss)) H
def spFol (K : PySem.W.Frag) : Sp := fun vs H Q _ => ∃ (v : V) (nm : Str) (ds : List PyData) (bs : List PyData) (ix : Int), vs = [v, .int ix] ∧ DT K H v (.tuple (.str nm :: ds)) ∧ FoOk nm (.str nm :: ds) ix bs ∧ ∀ u H', DT K H' u (.tuple bs) → Same H H' → Q u H'
def unF (v0 v1 v2 v3 v4 v5 v6 : V) : List (Str × V) := putF "regions" v6 (putF "code" v5 (putF "cells" v4 (putF "registers" v3 (putF "results" v2 (putF "arguments" v1 (putF "parent" v0 []))))))
theorem un_rg (v0 v1 v2 v3 v4 v5 v6 : V) : (unF v0 v1 v2 v3 v4 v5 v6).lookup ("regions" : Str) = some v6 :=
  (lookup_putF "regions" "regions" v6 _).trans (if_pos rfl)
theorem un_ne : ¬ ("code" : Str) = "regions" := by decide +kernel
theorem un_cd (v0 v1 v2 v3 v4 v5 v6 : V) : (unF v0 v1 v2 v3 v4 v5 v6).lookup ("code" : Str) = some v5 :=
  ((lookup_putF "regions" "code" v6 _).trans (if_neg un_ne)).trans ((lookup_putF "code" "code" v5 _).trans (if_pos rfl))
theorem pf_lt {f : Str} {v : V} {fs : List (Str × V)} {n : Nat} (h : fs.length ≤ n) : (putF f v fs).length ≤ n + 1 := Nat.le_trans (length_putF f v fs) (Nat.succ_le_succ h)
def spUnI (C : Addr) : Sp := fun vs H Q _ => ∃ (p dx : Addr) (v0 v1 v2 v3 v4 v5 v6 : V), vs = [.ref p, v0, v1, v2, v3, v4, v5, v6] ∧ H p = some (.ins C dx []) ∧ Q .non (upd H p (.ins C dx (unF v0 v1 v2 v3 v4 v5 v6)))
def spRegOf (K : PySem.W.Frag) (C : Addr) : Sp := fun vs H Q _ => ∃ (p dx : Addr) (v0 v1 v2 v3 v4 v5 : V) (ra : Addr) (xs : List V) (rs : List (List Int)) (ix : Int), vs = [.ref p, .int ix] ∧ H p = some (.ins C dx (unF v0 v1 v2 v3 v4 v5 (.ref ra))) ∧ SqT K H ra xs ∧ DTs K H xs (rs.map regD) ∧ (∀ r ∈ rs, 2 ≤ r.length) ∧ ∀ u, DT K H u (findR rs ix) → Q u H
theorem str_dec {x y : Str} (c : decide (V.str x = V.str y) = true) : x = y := by
  have := of_decide_eq_true c
  injection this
theorem str_dec' {x y : Str} (c : decide (V.str x = V.str y) = false) : x ≠ y := fun e => by
  rw [e] at c
  simp at c
theorem DT.ts {K : PySem.W.Frag} {H : Hp} {v : V} {ds : List PyData} (h : DT K H v (.tuple ds)) : ∃ a xs, v = .ref a ∧ SqT K H a xs ∧ DTs K H xs ds := by
  cases h with
  | tup h r => exact ⟨_, _, rfl, h, r⟩
theorem DT.i {K : PySem.W.Frag} {H : Hp} {v : V} {i : Int} (h : DT K H v (.int i)) : v = .int i := by
  cases h; rfl
theorem DT.s {K : PySem.W.Frag} {H : Hp} {v : V} {i : Str} (h : DT K H v (.str i)) : v = .str i := by
  cases h; rfl
theorem DTs.un {K : PySem.W.Frag} {H : Hp} {xs : List V} {d : PyData} {ds : List PyData} (h : DTs K H xs (d :: ds)) : ∃ v vs, xs = v :: vs ∧ DT K H v d ∧ DTs K H vs ds := by
  cases h with
  | cons k r => exact ⟨_, _, rfl, k, r⟩
theorem DTs.em {K : PySem.W.Frag} {H : Hp} {xs : List V} (h : DTs K H xs []) : xs = [] := by
  cases h; rfl
theorem DT.op {K : PySem.W.Frag} {H : Hp} {v : V} {z : Str} {n : Int} (h : DT K H v (opD (z, n))) : ∃ pb, v = .ref pb ∧ SqT K H pb [.str z, .int n] := by
  obtain ⟨pb, ys, e, hs, hd⟩ := DT.ts (ds := [.str z, .int n]) h
  obtain ⟨v1, y1, e1, k1, r1⟩ := hd.un
  obtain ⟨v2, y2, e2, k2, r2⟩ := r1.un
  rw [e1, e2, k1.s, k2.i, r2.em] at hs
  exact ⟨_, e, hs⟩
/-- the item of a tuple -/
theorem DTs.it {K : PySem.W.Frag} {H : Hp} {xs : List V} {ds : List PyData} (h : DTs K H xs ds) (i : Nat) {d : PyData} (e : ds[i]? = some d) : ∃ v, atI xs (i : Int) = some v ∧ DT K H v d := by
  obtain ⟨v, h1, h2⟩ := h.get e
  exact ⟨v, atI_nat h1, h2⟩
theorem filter_step {α : Type} {D : List α} {i : Nat} {d : α} (p : α → Bool) (h : D[i]? = some d) : (D.take (i + 1)).filter p = (D.take i).filter p ++ (if p d = true then [d] else []) := by
  rw [List.take_succ, h, List.filter_append]
  cases e : p d with
  | true => simp [e]
  | false => simp [e]
theorem ints_get {r : List Int} {i : Nat} (h : i < r.length) : (r.map PyData.int)[i]? = some (.int (r.getD i 0)) := by
  simp [List.getD, h]
section
variable {P : Program} {w : World} {K : PySem.W.Frag} {mg : Str → Option Value} {base : Heap} {a : Ad}
theorem ok_can_raise (T : Txt K mg a) : FnOk P w K mg base CX0 1 a.f_can_raise a.d_can_raise ["instruction"] (spCan K) := by
  refine T.F_can_raise.ok sc_can_raise (fun vs H Q E h => ?_) (fun cdv A outer s H vs Q E hr h => ?_)
  · obtain ⟨_, _, _, rfl, _⟩ := h; rfl
  · obtain ⟨v, nm, ds, rfl, hv, q⟩ := h
    obtain ⟨pa, xs, rfl, hs, hd⟩ := hv.ts
    obtain ⟨v0, e0, d0⟩ := hd.it 0 (d := .str nm) rfl
    cases d0.s
    refine ⟨_, (pss_one (ps_ret (pe_cmpR op_inS (pe_ix ix_tup (pv 0) pe_int (fun _ _ => rfl)) (pe_glob (v := .ref a.c_RAISING) rfl T.g_RAISING rfl) rfl))), ?_⟩
    exact ⟨_, rfl, _, _, _, _, rfl, rfl, hs, e0, a.c_RAISING, rss, rfl, .inr (T.q_RAISING H), rfl, by decide +kernel, q⟩
theorem ok_followers (T : Txt K mg a) : FnOk P w K mg base CX0 1 a.f_followers a.d_followers ["instruction", "index"] (spFol K) := by
  refine T.F_followers.ok sc_followers (fun vs H Q E h => ?_) (fun cdv A outer s H vs Q E hr h => ?_)
  · obtain ⟨_, _, _, _, _, rfl, _⟩ := h; rfl
  · obtain ⟨v, nm, ds, bs, ix, rfl, hv, ho, q⟩ := h
    obtain ⟨pa, xs, rfl, hs, hd⟩ := hv.ts
    obtain ⟨v0, e0, d0⟩ := hd.it 0 (d := .str nm) rfl
    cases d0.s
    refine ⟨_, (pss_cons (ps_set (i := 2) sc_followers.nd rfl (Or.inl rfl) (pe_ix ix_tup (pv 0) pe_int (fun _ _ => rfl)))
      (pss_cons (ps_if (pt_cmpR op_inS (pv 2) (pe_glob (v := .ref a.c_LEAVING) rfl T.g_LEAVING rfl) rfl) (pss_one (ps_ret (pe_tup pa_nil))) pss_nil)
      (pss_cons (ps_if (pt_cmpR op_eq (pv 2) pe_str (nomark _)) (pss_one (ps_ret (pe_tup (pa_cons (pe_ix ix_tup (pv 0) pe_int (fun _ _ => rfl)) pa_nil)))) pss_nil)
      (pss_cons (ps_set (i := 3) sc_followers.nd rfl (Or.inl rfl) (pe_op op_add (pv 1) pe_int))
      (pss_cons (ps_if (PW.pt (pw_and (pt_cmpR op_eq (pv 2) pe_str (nomark _)) (pw_and1 (pt_cmpR op_ne (pe_ix ix_tup (pv 0) pe_int (fun _ _ => rfl)) (pv 3) (nomark _))))) (pss_one (ps_ret (pe_tup (pa_cons (pe_callB (call_min2 rfl) (by rfl) T.b_min (by decide +kernel) (pa_cons (pe_ix ix_tup (pv 0) pe_int (fun _ _ => rfl)) (pa_cons (pv 3) pa_nil))) (pa_cons (pe_callB (call_max2 rfl) (by rfl) T.b_max (by decide +kernel) (pa_cons (pe_ix ix_tup (pv 0) pe_int (fun _ _ => rfl)) (pa_cons (pv 3) pa_nil))) pa_nil))))) pss_nil)
      (pss_one (ps_ret (pe_tup (pa_cons (pv 3) pa_nil))))))))), ?_⟩
    refine ⟨_, rfl, _, _, _, _, rfl, rfl, hs, e0, ?_⟩
    refine ⟨_, rfl, a.c_LEAVING, lvs, rfl, .inr (T.q_LEAVING H), rfl, by decide +kernel, _, rfl, ite3 (fun c => ?_) (fun c => ?_)⟩
    · rcases ho with ⟨_, rfl⟩ | ⟨n, _⟩ | ⟨n, _⟩ | ⟨n, _⟩ | ⟨n, _⟩
      · exact ⟨by decide, fun p np => q _ _ (.tup (SqT.of upd_same) .nil) (sN (Same.refl H) np)⟩
      all_goals (rw [c] at n; cases n)
    refine ⟨_, rfl, rfl, _, rfl, ite3 (fun c2 => ?_) (fun c2 => ?_)⟩
    · rcases ho with ⟨n, _⟩ | ⟨_, _, t, e, rfl⟩ | ⟨_, n, _⟩ | ⟨_, n, _⟩ | ⟨_, n, _⟩
      · rw [c] at n; cases n
      · obtain ⟨v1, e1, d1⟩ := hd.it 1 e
        cases d1.i
        exact ⟨_, rfl, _, _, _, _, rfl, rfl, hs, e1, (by show 1 ≤ sizeLine; decide), fun p np => q _ _ (.tup (SqT.of upd_same) (.cons (.int t) .nil)) (sN (Same.refl H) np)⟩
      all_goals exact absurd (str_dec c2) n
    refine ⟨_, rfl, _, _, rfl, rfl, ?_⟩
    have last : (∀ {bs' : List PyData}, bs = bs' → bs' = [.int (ix + 1)] → ∀ p, H p = none → Q (.ref p) (upd H p (.tup [.int (ix + 1)]))) := fun e1 e2 p np => by
      subst e1
      subst e2
      exact q _ _ (.tup (SqT.of upd_same) (.cons (.int _) .nil)) (sN (Same.refl H) np)
    refine ⟨_, rfl, rfl, _, rfl, ite3 (fun c3 => ?_) (fun c3 => ?_)⟩
    · rcases ho with ⟨n, _⟩ | ⟨_, n, _⟩ | ⟨_, _, _, t, e, ht, rfl⟩ | ⟨_, _, _, t, e, ht, rfl⟩ | ⟨_, _, n, _⟩
      · rw [c] at n; cases n
      · exact absurd n (str_dec' c2)
      · obtain ⟨v1, e1, d1⟩ := hd.it 2 e
        cases d1.i
        refine ⟨_, rfl, _, _, _, _, rfl, rfl, hs, e1, _, rfl, rfl, _, rfl, ite3 (fun c4 => ?_) (fun c4 => ?_)⟩
        · refine ⟨_, rfl, _, _, _, _, rfl, rfl, hs, e1, _, rfl, _, _, rfl, _, rfl, _, _, _, _, rfl, rfl, hs, e1, _, rfl, _, _, rfl, (by show 2 ≤ sizeLine; decide), fun p np => ?_⟩
          exact q _ _ (.tup (SqT.of upd_same) (.cons (.int _) (.cons (.int _) .nil))) (sN (Same.refl H) np)
        · exact absurd c4 (by simp [ht])
      · obtain ⟨v1, e1, d1⟩ := hd.it 2 e
        cases d1.i
        refine ⟨_, rfl, _, _, _, _, rfl, rfl, hs, e1, _, rfl, rfl, _, rfl, ite3 (fun c4 => ?_) (fun c4 => ?_)⟩
        · exact absurd c4 (by simp [ht])
        · exact ⟨_, rfl, (by show 1 ≤ sizeLine; decide), fun p np => last rfl rfl p np⟩
      · exact absurd (str_dec c3) n
    · rcases ho with ⟨n, _⟩ | ⟨_, n, _⟩ | ⟨_, _, n, _⟩ | ⟨_, _, n, _⟩ | ⟨_, _, _, e⟩
      · rw [c] at n; cases n
      · exact absurd n (str_dec' c2)
      · exact absurd n (str_dec' c3)
      · exact absurd n (str_dec' c3)
      · exact iteF ⟨_, rfl, (by show 1 ≤ sizeLine; decide), fun p np => last e rfl p np⟩
theorem ok_Unit___init__ (T : Txt K mg a) : FnOk P w K mg base CX0 1 a.f_Unit___init__ a.d_Unit___init__ ["self", "parent", "arguments", "results", "registers", "cells", "code", "regions"] (spUnI a.C_Unit) := by
  refine T.F_Unit___init__.ok sc_Unit___init__ (fun vs H Q E h => ?_) (fun cdv A outer s H vs Q E hr h => ?_)
  · obtain ⟨_, _, _, _, _, _, _, _, _, rfl, _⟩ := h; rfl
  · obtain ⟨p, dx, v0, v1, v2, v3, v4, v5, v6, rfl, hp, q⟩ := h
    refine ⟨_, (pss_cons (ps_fld (pv 0) (pv 1) rfl)
      (pss_cons (ps_fld (pv 0) (pv 2) rfl)
      (pss_cons (ps_fld (pv 0) (pv 3) rfl)
      (pss_cons (ps_fld (pv 0) (pv 4) rfl)
      (pss_cons (ps_fld (pv 0) (pv 5) rfl)
      (pss_cons (ps_fld (pv 0) (pv 6) rfl)
      (pss_one (ps_fld (pv 0) (pv 7) rfl)))))))), ?_⟩
    refine ⟨_, rfl, _, rfl, p, a.C_Unit, dx, _, rfl, hp, T.cl_Unit, T.n_Unit_parent, (by show 0 < 1000; decide), ?_⟩
    refine ⟨_, rfl, _, rfl, p, a.C_Unit, dx, _, rfl, upd_same, T.cl_Unit, T.n_Unit_arguments, (by show 1 < 1000; decide), ?_⟩
    rw [upd_upd]
    refine ⟨_, rfl, _, rfl, p, a.C_Unit, dx, _, rfl, upd_same, T.cl_Unit, T.n_Unit_results, Nat.lt_of_le_of_lt (pf_lt (pf_lt (Nat.le_refl 0))) (by decide : 2 < 1000), ?_⟩
    rw [upd_upd]
    refine ⟨_, rfl, _, rfl, p, a.C_Unit, dx, _, rfl, upd_same, T.cl_Unit, T.n_Unit_registers, Nat.lt_of_le_of_lt (pf_lt (pf_lt (pf_lt (Nat.le_refl 0)))) (by decide : 3 < 1000), ?_⟩
    rw [upd_upd]
    refine ⟨_, rfl, _, rfl, p, a.C_Unit, dx, _, rfl, upd_same, T.cl_Unit, T.n_Unit_cells, Nat.lt_of_le_of_lt (pf_lt (pf_lt (pf_lt (pf_lt (Nat.le_refl 0))))) (by decide : 4 < 1000), ?_⟩
    rw [upd_upd]
    refine ⟨_, rfl, _, rfl, p, a.C_Unit, dx, _, rfl, upd_same, T.cl_Unit, T.n_Unit_code, Nat.lt_of_le_of_lt (pf_lt (pf_lt (pf_lt (pf_lt (pf_lt (Nat.le_refl 0)))))) (by decide : 5 < 1000), ?_⟩
    rw [upd_upd]
    refine ⟨_, rfl, _, rfl, p, a.C_Unit, dx, _, rfl, upd_same, T.cl_Unit, T.n_Unit_regions, Nat.lt_of_le_of_lt (pf_lt (pf_lt (pf_lt (pf_lt (pf_lt (pf_lt (Nat.le_refl 0))))))) (by decide : 6 < 1000), ?_⟩
    rw [upd_upd]
    exact q
end

/-! ### enumerate(zip(a tuple, a list)) -/
namespace EZ
open PySem PySem.Spec PyProof.Rows
/-- a zip object, by its mark of the pair that is out -/
abbrev IsZ (h : Heap) (z TI TO : Addr) (f0 : Value) (f : Bool) : Prop := h.get? z = some { cls := .type "zip", dict := none, data := .fields #[f0, .bool f, .bool false, .ref TI, .ref TO], slots := #[] }
def MarkOk (f0 : Value) : Prop := f0 = .none ∨ ∃ T : Nat, f0 = rawInt (T : Int)
section
variable {P : Program} {w : World} {A : Around} {E : Value → Shared → Prop} {s : Shared} {z TI TO i1 i2 : Addr} {fp1 fp2 : List Addr} {n1 n2 i : Nat} {P1 P2 : Nat → Value → Prop} {St1 St2 : Nat → Heap → Prop} {a1 a2 f0 : Value} {f : Bool}
theorem alive_any {a : Addr} {Q : Option Obj → Shared → Prop} (h : Q (s.heap.get? a) s) : wpAny (model P w) A (loadIfAlive a) Q E s := fun _ _ _ => h
theorem zfree {Q : Bool → Shared → Prop} (hz : IsZ s.heap z TI TO f0 f) (hf : MarkOk f0) (q1 : Q true s) (q2 : ∀ h', IsZ h' z TI TO f0 true → Heap.SameBut z s.heap h' → Q false { s with heap := h' }) :
    wpAny (model P w) A (Builtin.SmallTypes.ownedTupleIsFree (.ref z)) Q E s := by
  unfold Builtin.SmallTypes.ownedTupleIsFree
  refine wpAny_bind (wpAny_field hz rfl (x := f0) rfl ?_)
  rcases hf with e | ⟨T, e⟩
  · subst e; exact wpAny_pure q1
  · subst e
    show wpAny _ _ (loadIfAlive ((T : Int).toNat) >>= _) _ _ _; rw [Int.toNat_natCast]
    refine wpAny_bind (alive_any ?_)
    cases hT : s.heap.get? T with
    | none => simp only [Option.isNone_none, if_true]; exact wpAny_pure q1
    | some oT =>
      simp only [Option.isNone_some, Bool.false_eq_true, if_false]
      refine wpAny_bind (wpAny_field hz rfl (x := .bool f) rfl ?_)
      cases f with
      | true => rw [if_neg (by decide)]; exact wpAny_pure (q2 s.heap hz (Heap.SameBut.refl _ _))
      | false => rw [if_pos (by decide)]; exact wpAny_bind (wpAny_setField_rec hz (by simp) fun h₁ hz₁ hs₁ => wpAny_pure (q2 h₁ hz₁ hs₁))
/-- what a turn of the zip leaves -/
structure ZOut (z TI TO i1 i2 : Addr) (P1 P2 : Nat → Value → Prop) (St1 St2 : Nat → Heap → Prop) (i : Nat) (h : Heap) (x1 x2 : Value) (h' : Heap) : Prop where
  p1 : P1 i x1
  p2 : P2 i x2
  zz : ∃ f0' f', MarkOk f0' ∧ IsZ h' z TI TO f0' f'
  oo : ∃ b1 b2, IsTupOf2 h' TO b1 b2
  s1 : St1 (i + 1) h'
  s2 : St2 (i + 1) h'
  T : IsTupOf2 h' h.objs.size x1 x2
  sz : h'.objs.size = h.objs.size + 1
  k : ∀ c o, c ≠ z → c ≠ TO → c ≠ i1 → c ≠ i2 → h.get? c = some o → h'.get? c = some o
theorem zip_item {Q : Value → Shared → Prop} (S : ZipSep2 z TI TO i1 i2 fp1 fp2) (D1 : Draws P w A i1 fp1 n1 P1 St1) (D2 : Draws P w A i2 fp2 n2 P2 St2)
    (hz : IsZ s.heap z TI TO f0 f) (hf : MarkOk f0) (hTI : IsTupOf2 s.heap TI (.ref i1) (.ref i2)) (hTO : IsTupOf2 s.heap TO a1 a2) (st1 : St1 i s.heap) (st2 : St2 i s.heap) (l1 : i < n1) (l2 : i < n2)
    (hQ : ∀ x1 x2 h' tk, ZOut z TI TO i1 i2 P1 P2 St1 St2 i s.heap x1 x2 h' → Q (.ref s.heap.objs.size) { s with heap := h', toks := tk }) :
    wpAny (model P w) A (Builtin.«zip.__next__» ⟨[.ref z], []⟩) (fun fin s' => ∃ v, fin = .done (.ret v) ∧ Q v s') E s := by
  obtain ⟨hp, g, d, tk0, os⟩ := s
  show wpAny _ _ (field (.ref z) 2 >>= _) _ _ _; refine wpAny_bind (wpAny_field hz rfl (x := .bool false) rfl ?_)
  show wpAny _ _ (field (.ref z) 3 >>= _) _ _ _; refine wpAny_bind (wpAny_field hz rfl (x := .ref TI) rfl ?_); refine wpAny_bind (wpAny_seqItems hTI rfl ?_)
  show wpAny _ _ (Builtin.SmallTypes.ownedTupleIsFree (.ref z) >>= _) _ _ _; refine wpAny_bind (zfree hz hf ?_ fun hA zA sA => ?_)
  · simp only [if_true]
    refine wpAny_bind (wpAny_rule ?_); refine wpAny_bind (wpAny_field hz rfl (x := .ref TO) rfl ?_)
    refine wpAny_bind (wpAny_setField_rec hz (by simp) fun g0 z0 s0 => ?_)
    replace z0 : IsZ g0 z TI TO .ellipsis f := z0; replace s0 : Heap.SameBut z hp g0 := s0
    refine wpAny_bind ?_; simp only [List.zipIdx_cons, List.zipIdx_nil, List.forIn_cons, List.forIn_nil]
    refine wpAny_bind (wpAny_bind (wpAny_onRaise ?_)); show wpAny _ _ (Builtin.SmallTypes.nextOf (.ref i1) >>= _) _ _ ⟨g0, g, d, tk0, os⟩
    refine wpAny_bind (D1.item i _ _ _ l1 (D1.over st1 s0 S.zf1) fun x1 b1 t1 hx1 n1' q1 => wpAny_pure ?_); replace q1 : Heap.SameBut i1 g0 b1 := q1
    have u1 : IsTupOf2 b1 TO a1 a2 := q1.extBut _ _ S.Ti1 (s0.extBut _ _ S.TOz hTO)
    refine wpAny_bind (wpAny_seqItems (s := ⟨b1, g, d, t1, os⟩) u1 rfl ?_); refine wpAny_bind (updateSeq_IsTupOf2 (s := ⟨b1, g, d, t1, os⟩) u1 fun g1 v1 s1 => ?_)
    replace v1 : IsTupOf2 g1 TO x1 a2 := v1; replace s1 : Heap.SameBut TO b1 g1 := s1
    refine wpAny_bind (wpAny_letGo (wpAny_pure ?_)); refine wpAny_bind (wpAny_bind (wpAny_onRaise ?_)); show wpAny _ _ (Builtin.SmallTypes.nextOf (.ref i2) >>= _) _ _ ⟨g1, g, d, t1, os⟩
    refine wpAny_bind (D2.item i _ _ _ l2 (D2.over (D2.over (D2.over st2 s0 S.zf2) q1 S.sep1_2) s1 S.Tf2) fun x2 b2 t2 hx2 n2' q2 => wpAny_pure ?_); replace q2 : Heap.SameBut i2 g1 b2 := q2
    have u2 : IsTupOf2 b2 TO x1 a2 := q2.extBut _ _ S.Ti2 v1
    refine wpAny_bind (wpAny_seqItems (s := ⟨b2, g, d, t2, os⟩) u2 rfl ?_); refine wpAny_bind (updateSeq_IsTupOf2 (s := ⟨b2, g, d, t2, os⟩) u2 fun g2 v2 s2 => ?_)
    replace v2 : IsTupOf2 g2 TO x1 x2 := v2; replace s2 : Heap.SameBut TO b2 g2 := s2
    refine wpAny_bind (wpAny_letGo (wpAny_pure (wpAny_pure ?_))); refine wpAny_bind (wpAny_seqItems (s := ⟨g2, g, d, t2, os⟩) v2 rfl ?_); refine wpAny_bind (wpAny_newTuple ?_)
    have es : g2.objs.size = hp.objs.size := by rw [s2.1, q2.1, s1.1, q1.1, s0.1]
    have zz : IsZ g2 z TI TO .ellipsis f := s2.extBut _ _ S.TOz.symm (q2.extBut _ _ S.zi2 (s1.extBut _ _ S.TOz.symm (q1.extBut _ _ S.zi1 z0)))
    have kk : ∀ c o, c ≠ z → c ≠ TO → c ≠ i1 → c ≠ i2 → hp.get? c = some o → g2.get? c = some o := fun c o cz cT c1 c2 e => s2.extBut _ _ cT (q2.extBut _ _ c2 (s1.extBut _ _ cT (q1.extBut _ _ c1 (s0.extBut _ _ cz e))))
    have j1 : St1 (i + 1) g2 := D1.over (D1.over (D1.over n1' s1 S.Tf1) q2 S.sep2_1) s2 S.Tf1
    have j2 : St2 (i + 1) g2 := D2.over n2' s2 S.Tf2
    have zl : z < g2.objs.size := Heap.lt_size zz
    show wpAny _ _ (Builtin.SmallTypes.ownedTupleHandOut (.ref z) (.ref g2.objs.size) >>= _) _ _ ⟨g2.push { cls := .type "tuple", data := .seq #[x1, x2] }, g, d, t2, os⟩
    refine wpAny_bind ?_; unfold Builtin.SmallTypes.ownedTupleHandOut
    have z6 : IsZ (g2.push { cls := .type "tuple", data := .seq #[x1, x2] }) z TI TO .ellipsis f := Heap.get?_push_of_some _ zz
    refine wpAny_bind (wpAny_setField_rec z6 (by simp) fun h7 z7 s7 => ?_); replace z7 : IsZ h7 z TI TO (rawInt g2.objs.size) f := z7
    refine wpAny_setField_rec z7 (by simp) fun h8 z8 s8 => ?_; replace z8 : IsZ h8 z TI TO (rawInt g2.objs.size) false := z8
    replace s7 : Heap.SameBut z (g2.push { cls := .type "tuple", data := .seq #[x1, x2] }) h7 := s7; replace s8 : Heap.SameBut z h7 h8 := s8
    have up : ∀ c o, c ≠ z → g2.get? c = some o → h8.get? c = some o := fun c o c1 e => s8.extBut _ _ c1 (s7.extBut _ _ c1 (Heap.get?_push_of_some _ e))
    have T8 : IsTupOf2 h8 g2.objs.size x1 x2 := s8.extBut _ _ (Nat.ne_of_gt zl) (s7.extBut _ _ (Nat.ne_of_gt zl) (Heap.get?_push_size _ rfl))
    have e8 : h8.objs.size = g2.objs.size + 1 := by rw [s8.1, s7.1, Heap.size_push]
    rw [es] at T8 e8
    refine wpAny_pure ⟨_, rfl, ?_⟩; show Q (.ref g2.objs.size) ⟨h8, g, d, t2, os⟩; rw [es]
    exact hQ x1 x2 h8 t2 ⟨hx1, hx2, ⟨_, _, .inr ⟨_, rfl⟩, z8⟩, ⟨_, _, up _ _ S.TOz v2⟩, D1.frame _ _ _ j1 fun b hb o e => up b o (fun q => S.zf1 (q ▸ hb)) e, D2.frame _ _ _ j2 fun b hb o e => up b o (fun q => S.zf2 (q ▸ hb)) e, T8, e8, fun c o cz cT c1 c2 e => up c o cz (kk c o cz cT c1 c2 e)⟩
  · simp only [Bool.false_eq_true, if_false]
    replace zA : IsZ hA z TI TO f0 true := zA; replace sA : Heap.SameBut z hp hA := sA
    refine wpAny_bind ?_; rw [← Array.forIn_toList]; simp only [List.forIn_cons, List.forIn_nil]
    refine wpAny_bind (wpAny_bind (wpAny_holding ?_)); show wpAny _ _ (Builtin.SmallTypes.nextOf (.ref i1) >>= _) _ _ ⟨hA, g, d, tk0, os⟩
    refine wpAny_bind (D1.item i _ _ _ l1 (D1.over st1 sA S.zf1) fun x1 b1 t1 hx1 n1' q1 => wpAny_pure ?_); replace q1 : Heap.SameBut i1 hA b1 := q1
    refine wpAny_pure ?_; refine wpAny_bind (wpAny_bind (wpAny_holding ?_)); show wpAny _ _ (Builtin.SmallTypes.nextOf (.ref i2) >>= _) _ _ ⟨b1, g, d, t1, os⟩
    refine wpAny_bind (D2.item i _ _ _ l2 (D2.over (D2.over st2 sA S.zf2) q1 S.sep1_2) fun x2 b2 t2 hx2 n2' q2 => wpAny_pure ?_); replace q2 : Heap.SameBut i2 b1 b2 := q2
    refine wpAny_pure (wpAny_pure ?_); show wpAny _ _ (newTuple [x1, x2] >>= _) _ _ _; refine wpAny_bind (wpAny_newTuple ?_)
    have es : b2.objs.size = hp.objs.size := by rw [q2.1, q1.1, sA.1]
    have up : ∀ c o, b2.get? c = some o → (b2.push { cls := .type "tuple", data := .seq #[x1, x2] }).get? c = some o := fun c o e => Heap.get?_push_of_some _ e
    have kk : ∀ c o, c ≠ z → c ≠ i1 → c ≠ i2 → hp.get? c = some o → b2.get? c = some o := fun c o cz c1 c2 e => q2.extBut _ _ c2 (q1.extBut _ _ c1 (sA.extBut _ _ cz e))
    have T8 : IsTupOf2 (b2.push { cls := .type "tuple", data := .seq #[x1, x2] }) b2.objs.size x1 x2 := Heap.get?_push_size _ rfl
    have e8 : (b2.push { cls := .type "tuple", data := .seq #[x1, x2] }).objs.size = b2.objs.size + 1 := Heap.size_push ..
    rw [es] at T8 e8
    refine wpAny_pure ⟨_, rfl, ?_⟩; show Q (.ref b2.objs.size) _; rw [es]
    have j1 : St1 (i + 1) b2 := D1.over n1' q2 S.sep2_1
    exact hQ x1 x2 _ t2 ⟨hx1, hx2, ⟨_, _, hf, up _ _ (q2.extBut _ _ S.zi2 (q1.extBut _ _ S.zi1 zA))⟩, ⟨_, _, up _ _ (kk _ _ S.TOz S.Ti1 S.Ti2 hTO)⟩, D1.frame _ _ _ j1 fun b hb o e => up b o e, D2.frame _ _ _ n2' fun b hb o e => up b o e, T8, e8, fun c o cz cT c1 c2 e => up c o (kk c o cz c1 c2 e)⟩
theorem zip_end {Q : Fin → Shared → Prop} (S : ZipSep2 z TI TO i1 i2 fp1 fp2) (D1 : Draws P w A i1 fp1 n1 P1 St1)
    (hz : IsZ s.heap z TI TO f0 f) (hf : MarkOk f0) (hTI : IsTupOf2 s.heap TI (.ref i1) (.ref i2)) (st1 : St1 n1 s.heap)
    (hE : ∀ h' e, (∀ c o, c ≠ z → c ≠ i1 → s.heap.get? c = some o → h'.get? c = some o) → (∃ o, h'.get? e = some o ∧ o.cls = .type "StopIteration") → E (.ref e) { s with heap := h' }) :
    wpAny (model P w) A (Builtin.«zip.__next__» ⟨[.ref z], []⟩) Q E s := by
  obtain ⟨hp, g, d, tk0, os⟩ := s
  show wpAny _ _ (field (.ref z) 2 >>= _) _ _ _; refine wpAny_bind (wpAny_field hz rfl (x := .bool false) rfl ?_)
  show wpAny _ _ (field (.ref z) 3 >>= _) _ _ _; refine wpAny_bind (wpAny_field hz rfl (x := .ref TI) rfl ?_); refine wpAny_bind (wpAny_seqItems hTI rfl ?_)
  show wpAny _ _ (Builtin.SmallTypes.ownedTupleIsFree (.ref z) >>= _) _ _ _; refine wpAny_bind (zfree hz hf ?_ fun hA zA sA => ?_)
  · simp only [if_true]
    refine wpAny_bind (wpAny_rule ?_); refine wpAny_bind (wpAny_field hz rfl (x := .ref TO) rfl ?_)
    refine wpAny_bind (wpAny_setField_rec hz (by simp) fun g0 z0 s0 => ?_)
    replace z0 : IsZ g0 z TI TO .ellipsis f := z0; replace s0 : Heap.SameBut z hp g0 := s0
    refine wpAny_bind ?_; simp only [List.zipIdx_cons, List.zipIdx_nil, List.forIn_cons, List.forIn_nil]
    refine wpAny_bind (wpAny_bind (wpAny_onRaise ?_)); show wpAny _ _ (Builtin.SmallTypes.nextOf (.ref i1) >>= _) _ _ ⟨g0, g, d, tk0, os⟩
    refine wpAny_bind (D1.done ⟨g0, g, d, tk0, os⟩ _ _ (D1.over st1 s0 S.zf1) fun q e hq he => ?_)
    replace hq : Heap.ExtBut i1 g0 q := hq; obtain ⟨oe, hoe, hce⟩ := he; replace hoe : q.get? e = some oe := hoe
    have zq : IsZ q z TI TO .ellipsis f := hq _ _ S.zi1 z0
    have ez : e ≠ z := fun x => by subst x; rw [zq] at hoe; cases hoe; simp at hce
    refine wpAny_setField_rec (s := ⟨q, g, d, tk0, os⟩) zq (by simp) fun q' _ hq' => ?_; replace hq' : Heap.SameBut z q q' := hq'
    exact hE q' e (fun c o cz c1 x => hq'.extBut _ _ cz (hq _ _ c1 (s0.extBut _ _ cz x))) ⟨oe, hq'.extBut _ _ ez hoe, hce⟩
  · simp only [Bool.false_eq_true, if_false]
    replace zA : IsZ hA z TI TO f0 true := zA; replace sA : Heap.SameBut z hp hA := sA
    refine wpAny_bind ?_; rw [← Array.forIn_toList]; simp only [List.forIn_cons, List.forIn_nil]
    refine wpAny_bind (wpAny_bind (wpAny_holding ?_)); show wpAny _ _ (Builtin.SmallTypes.nextOf (.ref i1) >>= _) _ _ ⟨hA, g, d, tk0, os⟩
    refine wpAny_bind (D1.done ⟨hA, g, d, tk0, os⟩ _ _ (D1.over st1 sA S.zf1) fun q e hq he => ?_)
    replace hq : Heap.ExtBut i1 hA q := hq
    exact hE q e (fun c o cz c1 x => hq _ _ c1 (sA.extBut _ _ cz x)) he
end
end EZ

namespace EZ
open PySem PySem.Spec PyProof.Rows
section
variable {P : Program} {w : World} {A : Around} {E : Value → Shared → Prop} {s : Shared}
/-- a turn of enumerate over anything that gives the next item -/
theorem enum_item {e it : Addr} {c : Int} {old : Value} {Q : Value → Shared → Prop} (he : IsEnum s.heap e it c old)
    (hin : wpAny (model P w) A (Builtin.SmallTypes.nextOf (.ref it)) (fun x s1 => IsEnum s1.heap e it c old ∧ ∀ h' tk, IsEnumOut h' e it (c + 1) x s1.heap.objs.size → h'.get? s1.heap.objs.size = some { cls := .type "tuple", data := .seq #[.int c tk, x] } → h'.objs.size = s1.heap.objs.size + 1 →
      (∀ b o, b ≠ e → s1.heap.get? b = some o → h'.get? b = some o) → Q (.ref s1.heap.objs.size) { s1 with heap := h', toks := tk + 1 }) E s) :
    wpAny (model P w) A (Builtin.«enumerate.__next__» ⟨[.ref e], []⟩) (fun fin s' => ∃ v, fin = .done (.ret v) ∧ Q v s') E s := by
  show wpAny _ _ (field (.ref e) 2 >>= _) _ _ _; refine wpAny_bind (wpAny_field he rfl (x := .ref it) rfl ?_)
  refine wpAny_bind (wpAny_mono hin (fun x s1 ⟨e1, hQ⟩ => ?_) fun _ _ z => z)
  obtain ⟨hp, g, d, tk, os⟩ := s1
  show wpAny _ _ (field (.ref e) 3 >>= _) _ _ ⟨hp, g, d, tk, os⟩; refine wpAny_bind (wpAny_field e1 rfl (x := rawInt c) rfl ?_)
  show wpAny _ _ (field (.ref e) 4 >>= _) _ _ ⟨hp, g, d, tk, os⟩; refine wpAny_bind (wpAny_field e1 rfl (x := .none) rfl ?_)
  show wpAny _ _ (mkInt c >>= _) _ _ ⟨hp, g, d, tk, os⟩; refine wpAny_bind (wpAny_mkInt ?_)
  show wpAny _ _ (setField (.ref e) 3 (rawInt (c + 1)) >>= _) _ _ ⟨hp, g, d, tk + 1, os⟩; refine wpAny_bind (wpAny_setField_rec e1 (by simp) fun h2 e2 s2 => ?_)
  replace s2 : Heap.SameBut e hp h2 := s2; replace e2 : IsEnum h2 e it (c + 1) old := e2
  show wpAny _ _ (setField (.ref e) 4 .none >>= _) _ _ ⟨h2, g, d, tk + 1, os⟩; refine wpAny_bind (wpAny_setField_rec e2 (by simp) fun h3 e3 s3 => ?_)
  replace s3 : Heap.SameBut e h2 h3 := s3; replace e3 : IsEnum h3 e it (c + 1) old := e3
  show wpAny _ _ (newTuple [.int c tk, x] >>= _) _ _ ⟨h3, g, d, tk + 1, os⟩; refine wpAny_bind (wpAny_newTuple ?_)
  have e4 : IsEnum (h3.push { cls := .type "tuple", data := .seq #[.int c tk, x] }) e it (c + 1) old := Heap.get?_push_of_some _ e3
  have es : h3.objs.size = hp.objs.size := by rw [s3.1, s2.1]
  have el : e < h3.objs.size := Heap.lt_size e3
  have T4 : (h3.push { cls := .type "tuple", data := .seq #[.int c tk, x] }).get? h3.objs.size = some { cls := .type "tuple", data := .seq #[.int c tk, x] } := Heap.get?_push_size _ rfl
  have z4 : (h3.push { cls := .type "tuple", data := .seq #[.int c tk, x] }).objs.size = h3.objs.size + 1 := Heap.size_push ..
  have k4 : ∀ b o, b ≠ e → hp.get? b = some o → (h3.push { cls := .type "tuple", data := .seq #[.int c tk, x] }).get? b = some o := fun b o hb q => Heap.get?_push_of_some _ (s3.extBut b o hb (s2.extBut b o hb q))
  show wpAny _ _ (Builtin.SmallTypes.ownedTupleIsFree (.ref e) >>= _) _ _ ⟨h3.push { cls := .type "tuple", data := .seq #[.int c tk, x] }, g, d, tk + 1, os⟩
  rw [es] at T4 z4 el ⊢
  generalize h3.push { cls := .type "tuple", data := .seq #[.int c tk, x] } = h4 at e4 T4 z4 k4 ⊢
  clear e3 s3 e2 s2 es h3 h2
  refine wpAny_bind ?_; unfold Builtin.SmallTypes.ownedTupleIsFree
  refine wpAny_bind (wpAny_field e4 rfl (x := .none) rfl (wpAny_pure ?_)); simp only [if_true]
  refine wpAny_bind (wpAny_rule ?_); refine wpAny_bind (wpAny_field e4 rfl (x := old) rfl ?_)
  refine wpAny_bind (wpAny_setField_rec e4 (by simp) fun h5 e5 s5 => ?_); replace s5 : Heap.SameBut e h4 h5 := s5; replace e5 : IsEnum h5 e it (c + 1) x := e5
  show wpAny _ _ (Builtin.SmallTypes.ownedTupleHandOut (.ref e) (.ref hp.objs.size) >>= _) _ _ ⟨h5, g, d, tk + 1, os⟩
  refine wpAny_bind ?_; unfold Builtin.SmallTypes.ownedTupleHandOut
  refine wpAny_bind (wpAny_setField_rec e5 (by simp) fun h6 e6 s6 => ?_); replace s6 : Heap.SameBut e h5 h6 := s6; replace e6 : IsEnumOut h6 e it (c + 1) x hp.objs.size := e6
  refine wpAny_setField_rec e6 (by simp) fun h7 e7 s7 => ?_; replace s7 : Heap.SameBut e h6 h7 := s7; replace e7 : IsEnumOut h7 e it (c + 1) x hp.objs.size := e7
  have up : ∀ b o, b ≠ e → h4.get? b = some o → h7.get? b = some o := fun b o hb q => s7.extBut b o hb (s6.extBut b o hb (s5.extBut b o hb q))
  refine wpAny_bind (wpAny_letGo (wpAny_pure ⟨_, rfl, hQ h7 tk e7 (up _ _ (Nat.ne_of_gt el) T4) (by rw [s7.1, s6.1, s5.1, z4]) fun b o hb q => up b o hb (k4 b o hb q)⟩))
theorem pn_enum_item {e it : Addr} {c : Int} {old : Value} {Q : Option Value → Shared → Prop} (he : IsEnum s.heap e it c old)
    (hin : ∀ E' : Value → Shared → Prop, wpAny (model P w) A.in1 (Builtin.SmallTypes.nextOf (.ref it)) (fun x s1 => IsEnum s1.heap e it c old ∧ ∀ h' tk, IsEnumOut h' e it (c + 1) x s1.heap.objs.size → h'.get? s1.heap.objs.size = some { cls := .type "tuple", data := .seq #[.int c tk, x] } → h'.objs.size = s1.heap.objs.size + 1 →
      (∀ b o, b ≠ e → s1.heap.get? b = some o → h'.get? b = some o) → Q (some (.ref s1.heap.objs.size)) { s1 with heap := h', toks := tk + 1 }) E' s) :
    wpAny (model P w) A (pyNext (.ref e)) Q E s := by
  have hT : s.TypeIs (.ref e) "enumerate" := ⟨_, he, rfl⟩
  unfold pyNext
  exact wpAny_bind (wpAny_attempt (wpAny_callSpecial?_slot (name := Str.ofString "__next__") hT F.slot_enumerate_next (wpAny_call_entry F.slot_enumerate_next hT F.entry_enumerate_next
      (enum_item (Q := fun v s' => wpAny _ _ _ _ _ s') he (wpAny_mono (hin _) (fun x s1 ⟨q1, q2⟩ => ⟨q1, fun h' tk y1 y2 y3 y4 => wpAny_pure (q2 h' tk y1 y2 y3 y4)⟩) fun _ _ z => z)) (F.args_enumerate_next_1 _))))
end
end EZ

namespace EZ
open PySem PySem.Spec PyProof.Rows
section
variable {P : Program} {w : World} {A : Around} {E : Value → Shared → Prop} {s : Shared} {z TI TO i1 i2 : Addr} {fp1 fp2 : List Addr} {n1 n2 i : Nat} {P1 P2 : Nat → Value → Prop} {St1 St2 : Nat → Heap → Prop} {a1 a2 f0 : Value} {f : Bool}
/-- the zip, drawn from -/
theorem next_zip_item {Q : Value → Shared → Prop} (S : ZipSep2 z TI TO i1 i2 fp1 fp2) (D1 : Draws P w A.in1 i1 fp1 n1 P1 St1) (D2 : Draws P w A.in1 i2 fp2 n2 P2 St2)
    (hz : IsZ s.heap z TI TO f0 f) (hf : MarkOk f0) (hTI : IsTupOf2 s.heap TI (.ref i1) (.ref i2)) (hTO : IsTupOf2 s.heap TO a1 a2) (st1 : St1 i s.heap) (st2 : St2 i s.heap) (l1 : i < n1) (l2 : i < n2)
    (hQ : ∀ x1 x2 h' tk, ZOut z TI TO i1 i2 P1 P2 St1 St2 i s.heap x1 x2 h' → Q (.ref s.heap.objs.size) { s with heap := h', toks := tk }) : wpAny (model P w) A (Builtin.SmallTypes.nextOf (.ref z)) Q E s := by
  have hT : s.TypeIs (.ref z) "zip" := ⟨_, hz, rfl⟩
  unfold Builtin.SmallTypes.nextOf
  exact wpAny_bind (wpAny_callSpecial?_slot (name := Str.ofString "__next__") hT F.slot_zip_next (wpAny_call_entry F.slot_zip_next hT F.entry_zip_next
    (zip_item (Q := fun v s' => wpAny _ _ _ _ _ s') S D1 D2 hz hf hTI hTO st1 st2 l1 l2 fun x1 x2 h' tk o => wpAny_pure (hQ x1 x2 h' tk o)) (F.args_zip_next_1 _)))
theorem next_zip_end {Q : Value → Shared → Prop} (S : ZipSep2 z TI TO i1 i2 fp1 fp2) (D1 : Draws P w A.in1 i1 fp1 n1 P1 St1)
    (hz : IsZ s.heap z TI TO f0 f) (hf : MarkOk f0) (hTI : IsTupOf2 s.heap TI (.ref i1) (.ref i2)) (st1 : St1 n1 s.heap)
    (hE : ∀ h' e, (∀ c o, c ≠ z → c ≠ i1 → s.heap.get? c = some o → h'.get? c = some o) → (∃ o, h'.get? e = some o ∧ o.cls = .type "StopIteration") → E (.ref e) { s with heap := h' }) : wpAny (model P w) A (Builtin.SmallTypes.nextOf (.ref z)) Q E s := by
  have hT : s.TypeIs (.ref z) "zip" := ⟨_, hz, rfl⟩
  unfold Builtin.SmallTypes.nextOf
  exact wpAny_bind (wpAny_callSpecial?_slot (name := Str.ofString "__next__") hT F.slot_zip_next (wpAny_call_entry F.slot_zip_next hT F.entry_zip_next (zip_end S D1 hz hf hTI st1 hE) (F.args_zip_next_1 _)))
theorem pn_enum_end {e : Addr} {c : Int} {old : Value} {Q : Option Value → Shared → Prop} (S : ZipSep2 z TI TO i1 i2 fp1 fp2) (D1 : Draws P w A.in1.in1 i1 fp1 n1 P1 St1) (he : IsEnum s.heap e z c old)
    (hz : IsZ s.heap z TI TO f0 f) (hf : MarkOk f0) (hTI : IsTupOf2 s.heap TI (.ref i1) (.ref i2)) (st1 : St1 n1 s.heap)
    (hQ : ∀ h', (∀ c o, c ≠ z → c ≠ i1 → s.heap.get? c = some o → h'.get? c = some o) → Q none { s with heap := h' }) : wpAny (model P w) A (pyNext (.ref e)) Q E s := by
  have hT : s.TypeIs (.ref e) "enumerate" := ⟨_, he, rfl⟩
  unfold pyNext
  refine wpAny_bind (wpAny_attempt (wpAny_callSpecial?_slot (name := Str.ofString "__next__") hT F.slot_enumerate_next (wpAny_call_entry F.slot_enumerate_next hT F.entry_enumerate_next ?_ (F.args_enumerate_next_1 _))))
  show wpAny _ _ (field (.ref e) 2 >>= _) _ _ _; refine wpAny_bind (wpAny_field he rfl (x := .ref z) rfl ?_)
  refine wpAny_bind (next_zip_end S D1 hz hf hTI st1 fun h' x hk hx => ?_); obtain ⟨o, ho, hc⟩ := hx
  refine wpAny_bind (wpAny_isInstance (T := "StopIteration") (b := true) ⟨o, ho, hc⟩ isSubtype_stop ?_)
  exact wpAny_pure (hQ _ hk)
end
/-- the tuple at a, the list at b, as they stand at each turn, the items in new pairs -/
def Itez (K : PySem.W.Frag) (a b : Addr) : It :=
  ⟨fun i H => ∃ (xs ys : List V) (x y : V), SqT K H a xs ∧ SqL K H b ys ∧ xs[i]? = some x ∧ ys[i]? = some y,
    fun i H v H' => ∃ T U x y, v = .ref U ∧ H T = none ∧ upd H T (.tup [x, y]) U = none ∧ H' = upd (upd H T (.tup [x, y])) U (.tup [.int (i : Nat), .ref T]) ∧ (∀ xs, SqT K H a xs → xs[i]? = some x) ∧ ∀ ys, SqL K H b ys → ys[i]? = some y,
    fun i H => ∃ xs ys : List V, SqT K H a xs ∧ SqL K H b ys ∧ xs.length = i⟩
/-- the state of the five things -/
def ezS (e z TI TO i1 i2 a b : Addr) (i : Nat) (h : Heap) : Prop :=
  (∃ old, IsEnum h e z ((i : Nat) : Int) old) ∧ (∃ f0 f, MarkOk f0 ∧ IsZ h z TI TO f0 f) ∧ IsTupOf2 h TI (.ref i1) (.ref i2) ∧ (∃ b1 b2, IsTupOf2 h TO b1 b2) ∧ h.IsTupleIter i1 a i ∧ h.IsListIter i2 b i
structure Sep (e z TI TO i1 i2 a b : Addr) : Prop where
  ez : e ≠ z
  eI : e ≠ TI
  eO : e ≠ TO
  e1 : e ≠ i1
  e2 : e ≠ i2
  zI : z ≠ TI
  zO : z ≠ TO
  z1 : z ≠ i1
  z2 : z ≠ i2
  IO : TI ≠ TO
  I1 : TI ≠ i1
  I2 : TI ≠ i2
  O1 : TO ≠ i1
  O2 : TO ≠ i2
  d12 : i1 ≠ i2
  ea : e ≠ a
  za : z ≠ a
  Oa : TO ≠ a
  a1 : a ≠ i1
  a2 : i2 ≠ a
  eb : e ≠ b
  zb : z ≠ b
  Ob : TO ≠ b
  b1 : i1 ≠ b
  b2 : b ≠ i2
theorem turn_ez {P : Program} {w : World} {K : PySem.W.Frag} {elts : List Expr} {kk : Nat} {tpos : Pos} {a b e z TI TO i1 i2 : Addr} (D : Sep e z TI TO i1 i2 a b) :
    Turn P w K (.Tuple elts kk tpos) (Itez K a b) [e, z, TI, TO, i1, i2] e (ezS e z TI TO i1 i2 a b) where
  mem := by simp
  obj := fun i h st c hc => by
    obtain ⟨⟨old, he⟩, ⟨f0, f, _, hz⟩, hTI, ⟨b1, b2, hTO⟩, ⟨o1, e1, _, d1⟩, ⟨o2, e2, _, d2⟩⟩ := st
    have e' : c = e ∨ c = z ∨ c = TI ∨ c = TO ∨ c = i1 ∨ c = i2 := by simpa using hc
    rcases e' with q | q | q | q | q | q
    · rw [q]; exact ⟨_, he, fun v q => nomatch q⟩
    · rw [q]; exact ⟨_, hz, fun v q => nomatch q⟩
    · rw [q]; exact ⟨_, hTI, fun v q => nomatch q⟩
    · rw [q]; exact ⟨_, hTO, fun v q => nomatch q⟩
    · rw [q]; exact ⟨o1, e1, fun v q => by rw [d1] at q; cases q⟩
    · rw [q]; exact ⟨o2, e2, fun v q => by rw [d2] at q; cases q⟩
  keep := fun i h h' st k => by
    obtain ⟨⟨old, he⟩, ⟨f0, f, hf, hz⟩, hTI, ⟨b1, b2, hTO⟩, h1, h2⟩ := st
    exact ⟨⟨old, k e (by simp) _ he⟩, ⟨f0, f, hf, k z (by simp) _ hz⟩, k TI (by simp) _ hTI, ⟨b1, b2, k TO (by simp) _ hTO⟩, h1.at fun o q => k i1 (by simp) o q, h2.at fun o q => k i2 (by simp) o q⟩
  item := by
    intro X hP hw hK hc i pins s σ H E I hf st hg
    subst hP hw hK
    obtain ⟨⟨old, he⟩, ⟨f0, f, hf0, hz⟩, hTI, ⟨b1, b2, hTO⟩, h1, h2⟩ := st
    obtain ⟨xs, ys, x, y, hqx, hqy, hx, hy⟩ := hg
    obtain ⟨its, rv, p, _⟩ := I.tuple hqx
    obtain ⟨its2, rv2, p2, _⟩ := I.list hqy
    obtain ⟨u, hu, ru⟩ := rv.get hx
    obtain ⟨u2, hu2, ru2⟩ := rv2.get hy
    have hh2 : X.A.in1.in1.handled = none := by simp [I.ok.hd hc]
    have lt : ∀ c ∈ [e, z, TI, TO, i1, i2], c < s.heap.objs.size := fun c hcm => by
      have e' : c = e ∨ c = z ∨ c = TI ∨ c = TO ∨ c = i1 ∨ c = i2 := by simpa using hcm
      obtain ⟨o1, e1, _⟩ := id h1; obtain ⟨o2, e2, _⟩ := id h2
      rcases e' with q | q | q | q | q | q
      · rw [q]; exact Heap.lt_size he
      · rw [q]; exact Heap.lt_size hz
      · rw [q]; exact Heap.lt_size hTI
      · rw [q]; exact Heap.lt_size hTO
      · rw [q]; exact Heap.lt_size e1
      · rw [q]; exact Heap.lt_size e2
    have li1 : i < its.toArray.size := by rw [List.size_toArray]; exact (List.getElem?_eq_some_iff.mp hu).1
    have li2 : i < its2.toArray.size := by rw [List.size_toArray]; exact (List.getElem?_eq_some_iff.mp hu2).1
    have S : ZipSep2 z TI TO i1 i2 [i1, a] [i2, b] := ⟨D.zI.symm, D.zO.symm, D.IO, D.I1, by simp, by simp [D.z1, D.za], by simp [D.O1, D.Oa], D.I2, by simp, by simp [D.z2, D.zb], by simp [D.O2, D.Ob], by simp [D.d12, D.b1], by simp [D.d12.symm, D.a2]⟩
    refine pn_enum_item he (fun E' => next_zip_item S (Draws.tuple (A := X.A.in1.in1) hh2 i1 a D.a1 its.toArray) (Draws.list (A := X.A.in1.in1) hh2 i2 b D.b2 its2.toArray) hz hf0 hTI hTO ⟨h1, p⟩ ⟨h2, p2.isList⟩ li1 li2 fun x1 x2 h' tk o => ⟨o.k _ _ D.ez D.eO D.e1 D.e2 he, fun h'' tk2 ho hT hs hk => ?_⟩)
    obtain rfl : x1 = u := by
      have := o.p1
      rw [List.getElem?_toArray, hu] at this
      exact (Option.some.inj this).symm
    obtain rfl : x2 = u2 := by
      have := o.p2
      rw [List.getElem?_toArray, hu2] at this
      exact (Option.some.inj this).symm
    refine ⟨_, rfl, wpAny_letOwnedTupleGo_enum (s := { s with heap := h'', toks := tk2 + 1 }) ho fun h3 he3 sb => ?_⟩
    replace sb : Heap.SameBut e h'' h3 := sb
    have hN := o.sz
    have lN : s.heap.objs.size ≤ h'.objs.size := by rw [hN]; exact Nat.le_succ _
    have kA : ∀ c ob, c ∉ [e, z, TI, TO, i1, i2] → s.heap.get? c = some ob → h'.get? c = some ob := fun c ob hb q => o.k c ob (fun z => hb (by simp [z])) (fun z => hb (by simp [z])) (fun z => hb (by simp [z])) (fun z => hb (by simp [z])) q
    have I1 : Inv X pins σ (upd H s.heap.objs.size (.tup [x, y])) { s with heap := h', toks := tk } :=
      I.turnedNew (ch := [e, z, TI, TO, i1, i2]) kA hf (Nat.le_refl _) ⟨by show 2 ≤ sizeLine; decide, [x1, x2], .cons ru (.cons ru2 .nil), ⟨_, o.T, rfl, _, rfl⟩⟩
    have up : ∀ c ob, c ≠ e → h'.get? c = some ob → h3.get? c = some ob := fun c ob ne q => sb.extBut c ob ne (hk c ob ne q)
    have ne0 : ∀ c ∈ [e, z, TI, TO, i1, i2], c ≠ s.heap.objs.size := fun c hcm => Nat.ne_of_lt (lt c hcm)
    have ne1 : ∀ c ∈ [e, z, TI, TO, i1, i2], c ≠ h'.objs.size := fun c hcm => Nat.ne_of_lt (Nat.lt_of_lt_of_le (lt c hcm) lN)
    have T3 : h3.get? h'.objs.size = some { cls := .type "tuple", data := .seq #[.int ((i : Nat) : Int) tk2, .ref s.heap.objs.size] } := sb.extBut _ _ (ne1 e (by simp)).symm hT
    have hf1 : ∀ c ∈ [e, z, TI, TO, i1, i2], FpOk X pins (upd H s.heap.objs.size (.tup [x, y])) c := fun c hcm => by
      obtain ⟨g0, g1⟩ := hf c hcm
      exact ⟨by rw [upd_ne (ne0 c hcm)]; exact g0, g1⟩
    have I2 : Inv X pins σ (upd (upd H s.heap.objs.size (.tup [x, y])) h'.objs.size (.tup [.int (i : Nat), .ref s.heap.objs.size])) { s with heap := h3, toks := tk2 + 1 } :=
      I1.turnedNew (h' := h3) (t' := tk2 + 1) (ch := [e, z, TI, TO, i1, i2]) (fun c ob hb q => up c ob (fun z => hb (by simp [z])) q) hf1 (Nat.le_refl _) ⟨by show 2 ≤ sizeLine; decide, [.int ((i : Nat) : Int) tk2, .ref s.heap.objs.size], .cons ⟨_, rfl⟩ (.cons rfl .nil), ⟨_, T3, rfl, _, rfl⟩⟩
    refine ⟨.ref h'.objs.size, _, I2, rfl, ⟨s.heap.objs.size, h'.objs.size, x, y, rfl, I.hok.fresh (Nat.le_refl _), I1.hok.fresh (Nat.le_refl _), rfl, fun l hl => ?_, fun l hl => by rw [I.list_inj hl hqy]; exact hy⟩, ?_, fun c hcm => ?_⟩
    · rw [I.tuple_inj hl hqx]; exact hx
    · obtain ⟨f0', f', m', z'⟩ := o.zz
      obtain ⟨b1', b2', O'⟩ := o.oo
      have e1 : ((i + 1 : Nat) : Int) = (i : Int) + 1 := by omega
      refine ⟨⟨_, by rw [e1]; exact he3⟩, ⟨f0', f', m', up _ _ D.ez.symm z'⟩, up _ _ D.eI.symm (o.k _ _ D.zI.symm D.IO D.I1 D.I2 hTI), ⟨b1', b2', up _ _ D.eO.symm O'⟩, o.s1.1.at fun ob q => up _ _ D.e1.symm q, o.s2.1.at fun ob q => up _ _ D.e2.symm q⟩
    · rw [upd_ne (ne1 c hcm), upd_ne (ne0 c hcm)]
      exact (hf c hcm).1
  done := by
    intro X hP hw hK hc i pins s σ H E I hf st hg
    subst hP hw hK
    obtain ⟨⟨old, he⟩, ⟨f0, f, hf0, hz⟩, hTI, ⟨b1, b2, hTO⟩, h1, h2⟩ := st
    obtain ⟨xs, ys, hqx, hqy, hx⟩ := hg
    obtain ⟨its, rv, p, _⟩ := I.tuple hqx
    have hh2 : X.A.in1.in1.handled = none := by simp [I.ok.hd hc]
    have hl := rv.length
    have S : ZipSep2 z TI TO i1 i2 [i1, a] [i2, b] := ⟨D.zI.symm, D.zO.symm, D.IO, D.I1, by simp, by simp [D.z1, D.za], by simp [D.O1, D.Oa], D.I2, by simp, by simp [D.z2, D.zb], by simp [D.O2, D.Ob], by simp [D.d12, D.b1], by simp [D.d12.symm, D.a2]⟩
    have hi : i = its.toArray.size := by rw [List.size_toArray]; omega
    subst hi
    exact pn_enum_end S (Draws.tuple (A := X.A.in1.in1) hh2 i1 a D.a1 its.toArray) he hz hf0 hTI ⟨h1, p⟩ fun h' hk => ⟨rfl, I.turnedL (t' := s.toks) (ch := [e, z, TI, TO, i1, i2]) (fun c o hb q => hk c o (fun w => hb (by simp [w])) (fun w => hb (by simp [w])) q) hf⟩
  self := fun A i s Q E st h => let ⟨⟨_, he⟩, _⟩ := st; wpAny_pyIter_enum he h
end EZ

namespace EZ
open PySem PySem.Spec PyProof.Rows
set_option maxHeartbeats 4000000
abbrev enO (z : Addr) : Obj := { cls := .type "enumerate", data := .fields #[.none, .bool false, .ref z, rawInt 0, .none, .none] }
theorem meets_enum_z {z : Addr} {H : Heap → Prop} (hI : ∀ (P : Program) (w : World) (A : Around) (E : Value → Shared → Prop) (s : Shared) (Q : Value → Shared → Prop), H s.heap → Q (.ref z) s → wpAny (model P w) A (pyIter (.ref z)) Q E s) :
    Meets (Builtin.«enumerate.__new__» ⟨[.type "enumerate", .ref z], []⟩) (fun _ R s => H s.heap ∧ R (.ok (.ret (.ref s.heap.objs.size))) { s with heap := s.heap.push (enO z) }) :=
  .of_wp fun prog w A R s h => by
    obtain ⟨hp, g, d, tk, os⟩ := s; obtain ⟨h1, h⟩ := h; have hsub := sub_enumerate
    have q1 : ∀ {A' : Around} {E : Value → Shared → Prop} {Q : Value → Shared → Prop}, Q (.ref z) ⟨hp, g, d, tk, os⟩ → wpAny (model prog w) A' (pyIter (.ref z)) Q E ⟨hp, g, d, tk, os⟩ := fun q => hI prog w _ _ ⟨hp, g, d, tk, os⟩ _ h1 q
    wp_walk using q1
    refine wpAny_stack_any fun st => wpAny_pure ?_; split
    · rename_i c _ _ _ _ _; cases (c == Value.type "enumerate") <;> (wp_walk using q1; exact ⟨_, rfl, h⟩)
    · wp_walk using q1; exact ⟨_, rfl, h⟩
theorem call_enum_z {P : Program} {w : World} {A : Around} {E : Value → Shared → Prop} {s : Shared} {z TI TO : Addr} {f0 : Value} {Q : Value → Shared → Prop} (hz : IsZip s.heap z TI TO f0)
    (h : ∀ h', IsEnum h' s.heap.objs.size z 0 .none → (∀ b o, s.heap.get? b = some o → h'.get? b = some o) → Q (.ref s.heap.objs.size) { s with heap := h' }) : wpAny (model P w) A (call (.type "enumerate") [.ref z]) Q E s := by
  refine callType_new F.called_enumerate (by decide) (F.typeCall_enumerate_1 _) (F.newCall_enumerate_1 _) (fun obj => F.args_object_init_2 obj _) F.entry_enumerate_new (meets_enum_z (H := fun h => IsZip h z TI TO f0) fun _ _ _ _ _ _ x q => wpAny_pyIter_zip x q) ⟨hz, ?_⟩
  have he : IsEnum (s.heap.push (enO z)) s.heap.objs.size z 0 .none := Heap.get?_push_size _ rfl
  exact ⟨⟨_, he, rfl⟩, h _ he fun b o x => Heap.get?_push_of_some _ x⟩
theorem sep_mk {N a b e : Nat} (ha : a < N) (hb : b < N) (he : e = N + 5) : Sep e (N + 4) (N + 2) (N + 3) N (N + 1) a b := by
  have nn : ∀ {x y : Nat}, x ≠ y → (x : Addr) ≠ (y : Addr) := fun h => h
  exact ⟨nn (by omega), nn (by omega), nn (by omega), nn (by omega), nn (by omega), nn (by omega), nn (by omega), nn (by omega), nn (by omega), nn (by omega), nn (by omega), nn (by omega), nn (by omega), nn (by omega), nn (by omega), nn (by omega), nn (by omega), nn (by omega), nn (by omega), nn (by omega), nn (by omega), nn (by omega), nn (by omega), nn (by omega), nn (by omega)⟩
def iEz (K : PySem.W.Frag) (ta : TA) : TI := fun σ H R => ta σ H fun vs H1 => ∃ a b xs ys, vs = [.ref a, .ref b] ∧ SqT K H1 a xs ∧ SqL K H1 b ys ∧ R (Itez K a b) H1
theorem pi_ez {X : Cx} {e e2 : Expr} {ta : TA} {p p2 pos pos2 tpos : Pos} {elts : List Expr} {kk : Nat} (hg : Gl X "enumerate") (hm : X.mg "enumerate" = none) (hg2 : Gl X "zip") (hm2 : X.mg "zip" = none) (ha : PA X [e, e2] ta)
    (hs : starEach [e, e2] X.env = (false, eval e X.env) :: starEach [e2] X.env := by rfl) (hpl : (backTo pos2 (starEach [e2] X.env)).any (·.1) = false := by rfl) :
    PI X (.Tuple elts kk tpos) (.Call (.Name "enumerate" p) [.Call (.Name "zip" p2) [e, e2] [] pos2] [] pos) (iEz X.K ta) := by
  refine ⟨fun pins s σ H R I h => ?_⟩
  refine Call_ (ld_blt I hg hm boot_enumerate (PyProof.Rows.callWith_type1 (PyProof.Rows.args_cons ?_ rfl) rfl rfl))
  refine Call_ (ld_blt I hg2 hm2 PyProof.Rows.boot_zip (PyProof.Rows.callWith_type1 (thn (ha.run pos2 pins s σ H _ I h) fun us s1 ⟨vs, H1, I1, r1, q1⟩ => ?_) hs hpl))
  obtain ⟨a, b, xs, ys, ex, hqx, hqy, q⟩ := q1; subst ex
  obtain ⟨its, rv, p1, _⟩ := I1.tuple hqx; obtain ⟨its2, rv2, p3, _⟩ := I1.list hqy
  obtain ⟨u1, u2, rfl, c1, c2⟩ := vals2 r1; cases c1; cases c2
  have la : a < s1.heap.objs.size := by obtain ⟨_, q, _⟩ := p1; exact Heap.lt_size q
  have lb : b < s1.heap.objs.size := p3.lt
  refine zip_begins2 (begins_tuple a its.toArray) (begins_list b its2.toArray) p1 p3.isList fun h' hz hTI hTO g1 g2 hsz hk => PyProof.Rows.args_nil ?_
  refine call_enum_z (s := { s1 with heap := h' }) hz fun h2 he hk2 => wpAny_pyIter_enum he ?_
  have kk2 : ∀ c o, s1.heap.get? c = some o → h2.get? c = some o := fun c o x => hk2 c o (hk c o x)
  have I2 : Inv X pins σ H1 { s1 with heap := h2 } := I1.kept (t' := s1.toks) kk2
  have eN : (h'.objs.size : Nat) = s1.heap.objs.size + 5 := hsz
  refine ⟨h'.objs.size, [h'.objs.size, s1.heap.objs.size + 4, s1.heap.objs.size + 2, s1.heap.objs.size + 3, s1.heap.objs.size, s1.heap.objs.size + 1], _, _, H1, rfl, I2, turn_ez (a := a) (b := b) (sep_mk la lb eN),
    ⟨⟨.none, he⟩, ⟨.none, false, .inl rfl, hk2 _ _ hz⟩, hk2 _ _ hTI, ⟨_, _, hk2 _ _ hTO⟩, ⟨_, hk2 _ _ g1, rfl, rfl⟩, ⟨_, hk2 _ _ g2, rfl, rfl⟩⟩, fun c hc => ?_, q⟩
  have hle : s1.heap.objs.size ≤ c := by
    have hc' : c = h'.objs.size ∨ c = s1.heap.objs.size + 4 ∨ c = s1.heap.objs.size + 2 ∨ c = s1.heap.objs.size + 3 ∨ c = s1.heap.objs.size ∨ c = s1.heap.objs.size + 1 := by simpa using hc
    rcases hc' with e | e | e | e | e | e <;> rw [e]
    · rw [eN]; exact Nat.le_add_right _ _
    · exact Nat.le_add_right _ _
    · exact Nat.le_add_right _ _
    · exact Nat.le_add_right _ _
    · exact Nat.le_refl _
    · exact Nat.le_add_right _ _
  exact I1.fpOk hle (I1.hok.fresh hle)
theorem for_ez {K : PySem.W.Frag} {a b : Addr} {xs ys : List V} {g : TG} {tb : TS} {D : Ends} {σ : L2.St} {H : Hp} (hl : xs.length = ys.length) (Pv : Nat → L2.St → Hp → Prop) (h0 : Pv 0 σ H) (hq : ∀ i σ H, i ≤ xs.length → Pv i σ H → SqT K H a xs ∧ SqL K H b ys)
    (hs : ∀ i x y σ H T U, xs[i]? = some x → ys[i]? = some y → Pv i σ H → H T = none → upd H T (.tup [x, y]) U = none → g (.ref U) σ (upd (upd H T (.tup [x, y])) U (.tup [.int (i : Nat), .ref T])) fun σ2 H2 => tb { D with nx := Pv (i + 1), ct := Pv (i + 1), bk := D.nx } σ2 H2) (hd : ∀ σ H, Pv xs.length σ H → D.nx σ H) :
    ∃ W : Nat → Nat → L2.St → Hp → Prop, (∃ m, W 0 m σ H) ∧ ∀ i m σ H, W i m σ H →
      ((Itez K a b).stop i H ∧ D.nx σ H) ∨ ((Itez K a b).go i H ∧ ∃ N : L2.St → Hp → Prop, (∀ σ' H', N σ' H' → ∃ m', m' < m ∧ W (i + 1) m' σ' H') ∧ ∀ x H', (Itez K a b).yld i H x H' → g x σ H' fun σ2 H2 => tb { D with nx := N, ct := N, bk := D.nx } σ2 H2) := by
  refine ⟨fun i m σ H => m = xs.length - i ∧ i ≤ xs.length ∧ Pv i σ H, ⟨xs.length, by simp, Nat.zero_le _, h0⟩, ?_⟩
  rintro i m σ H ⟨rfl, hi, p⟩
  obtain ⟨q1, q2⟩ := hq i σ H hi p
  by_cases hlt : i < xs.length
  · refine .inr ⟨⟨xs, ys, xs[i], ys[i], q1, q2, by simp [hlt], by simp [hl ▸ hlt]⟩, Pv (i + 1), fun σ' H' p' => ⟨xs.length - (i + 1), by omega, rfl, hlt, p'⟩, fun v H' yy => ?_⟩
    obtain ⟨T, U, x, y, e1, nT, nU, e2, y1, y2⟩ := yy
    subst e1; subst e2
    exact hs i x y σ H T U (y1 xs q1) (y2 ys q2) p nT nU
  · have e : i = xs.length := by omega
    subst e
    exact .inl ⟨⟨xs, ys, q1, q2, rfl⟩, hd σ H p⟩
end EZ

/-! ### set(xs), xs a list of ints -/
section
open PySem.Spec PyProof.Rows
variable {P : Program} {w : World} {A : Around} {E : Value → Shared → Prop} {s : Shared}
/-- the empty set as it is laid -/
abbrev e0S (w : World) : Obj := { cls := .type "set", dict := none, data := .set #[] 0 (.fresh 0 0 (!w.params.followText "set-order")) }
abbrev e1S (w : World) (s : Shared) : Shared := { s with heap := s.heap.push (e0S w) }
abbrev OutS (w : World) (ns : List Int) (s : Shared) (h' : Heap) (c : Nat) : Prop := SetR w h' s.heap.objs.size (fun j => decide (j ∈ ns)) c ∧ c ≤ ns.length ∧ ∀ b o, s.heap.get? b = some o → h'.get? b = some o
set_option maxHeartbeats 3200000 in
theorem call_setL {l : Addr} {items : Array Value} (ns : List Int) {Q : Value → Shared → Prop} (hh : A.handled = none) (hl : s.heap.IsList l items) (hi : IntsAre items.toList ns) (hb : ns.length + 1 < scanBound)
    (fin : ∀ (h' : Heap) (tk c : Nat), OutS w ns s h' c → Q (.ref s.heap.objs.size) { s with heap := h', toks := tk }) : wpAny (model P w) A (call (.type "set") [.ref l]) Q E s := by
  have hz : items.size = ns.length := by rw [← IntsAre.length hi] <;> simp
  obtain ⟨c, tl, hmro⟩ := F.called_set.mro; have hmade := F.called_set.made; have hsub := F.called_set.sub
  refine wpAny_call (codeAny_of_tree ?_); show wpAny _ _ (callAny (.type "set") _) _ _ _
  refine wpAny_pure ⟨Code.quiet_builtin _ (by decide +kernel), codeAny_builtin F.entry_type_call ?_⟩; rw [Around.under_plain (weight_type_call_type "set" [.ref l] []) rfl]
  have h1 := F.called_set.notType; have h2 := F.called_set.canCreate; have hct := F.typeCall_set_1 (.ref l)
  repeat (any_goals (first | assumption | wp_step))
  refine codeAny_mono (code_set_led1 (.ref l) (E := E) (Q₁ := fun z s₁ => z = .ref s.heap.objs.size ∧ s₁ = e1S w s) ⟨rfl, rfl⟩) fun r s₁ hr => ?_
  match r, hr with
  | .error e, hr => exact hr
  | .ok .next, hr => exact hr.elim
  | .ok .brk, hr => exact hr.elim
  | .ok .cont, hr => exact hr.elim
  | .ok (.ret z), hr =>
    obtain ⟨rfl, rfl⟩ := hr
    have hS : (e1S w s).heap.get? s.heap.objs.size = some (e0S w) := Heap.get?_push_size _ rfl
    have hT : (e1S w s).TypeIs (.ref s.heap.objs.size) "set" := ⟨_, hS, rfl⟩
    have hli := F.called_set.init.lookup; have hbi := F.called_set.init.bind (.ref s.heap.objs.size)
    repeat (any_goals (first | assumption | wp_step))
    refine codeAny_mono (codeAny_call_builtin (R := wants (fun r s₂ => r = .none ∧ ∃ h' tk c, s₂ = { s with heap := h', toks := tk } ∧ OutS w ns s h' c) E) F.called_set.init.plain F.entry_set_init (check_set_init_1 hT ?_)) fun r₂ s₂ hr₂ => ?_
    · obtain ⟨⟨oc, od, oa, os⟩, hol, hcl, nl, hdl⟩ := hl
      obtain rfl : oc = _ := hcl; obtain rfl : oa = _ := hdl
      have hol' : (e1S w s).heap.get? l = some _ := Heap.get?_push_of_some _ hol
      have q1 := F.sub_list_set; have q2 := F.sub_list_frozenset; have q3 : (Value.type "list" == Value.type "dict") = false := by decide
      have hl1 : (e1S w s).heap.IsList l items := ⟨_, hol', rfl, nl, rfl⟩
      unfold Builtin.«set.__init__» noKeywords Builtin.Frozenset.updateFrom
      generalize hPI : pyIter = PI; wp_walk; subst hPI
      refine wpAny_pyIter_list hl1 ?_; refine wpAny_bind (wpAny_runValue ?_)
      have hlS : l < s.heap.objs.size := Heap.lt_size hol
      have hh3 : A.in1.in1.in1.handled = none := by simp [hh]
      have hz1 : (e1S w s).heap.objs.size = s.heap.objs.size + 1 := Heap.size_push ..
      have hnI : l ≠ (e1S w s).heap.objs.size := by rw [hz1]; exact Nat.ne_of_lt (Nat.lt_succ_of_lt hlS)
      have hnS : s.heap.objs.size ∉ [(e1S w s).heap.objs.size, l] := by rw [hz1]; simp only [List.mem_cons, List.not_mem_nil, or_false, not_or]; exact ⟨Nat.ne_of_lt (Nat.lt_succ_self _), Nat.ne_of_gt hlS⟩
      have hval : ∀ (i : Nat) (v : Value), items[i]? = some v → ∃ k t, ns[i]? = some k ∧ v = .int k t := fun i v hv => by
        obtain ⟨t, e⟩ := IntsAre.int_at hi i v (by simpa using hv)
        have hi' : i < ns.length := by rw [← hz]; exact (Array.getElem?_eq_some_iff.mp hv).1
        exact ⟨ns[i], t, List.getElem?_eq_getElem hi', by rw [e, List.getD_eq_getElem?_getD, List.getElem?_eq_getElem hi'] <;> rfl⟩
      have hget : ((e1S w s).heap.push { cls := .type "list_iterator", data := .fields #[.ref l, .int 0 0] }).get? s.heap.objs.size = some (e0S w) := Heap.get?_push_of_some _ hS
      refine set_update_ints ((Walks.list hh3 _ l hnI items).toS) s.heap.objs.size hnS ns hz hb hval (items.size - 0) 0 _ (by omega) (Nat.zero_le _) ⟨⟨_, Heap.get?_push_size _ rfl, rfl, rfl⟩, hl1.push _⟩ ⟨0, Nat.le_refl 0, setR_new_at hget⟩ fun s' c' hm hc' hS' => ?_
      obtain ⟨h', g2, d', tk', os'⟩ := s'
      obtain rfl : g2 = s.gens := hm.gens; obtain rfl : d' = s.drawn := hm.drawn; obtain rfl : os' = s.os := hm.os
      show wpAny _ _ _ _ _ _
      refine wpAny_pure ?_; show wpAny _ _ (ret Value.none) _ _ _
      rw [hz] at hc'
      refine wpAny_pure ⟨rfl, h', tk', c', rfl, hS', hc', fun b o e => ?_⟩
      have hb0 : b < s.heap.objs.size := Heap.lt_size e
      exact hm.heap b o (by rw [hz1]; simp only [List.mem_cons, List.not_mem_nil, or_false, not_or]; exact ⟨Nat.ne_of_lt hb0, Nat.ne_of_lt (Nat.lt_succ_of_lt hb0)⟩) (Heap.get?_push_of_some _ (Heap.get?_push_of_some _ e))
    · match r₂, hr₂ with
      | .error e, hr₂ => exact hr₂
      | .ok .next, hr₂ => exact hr₂.elim
      | .ok .brk, hr₂ => exact hr₂.elim
      | .ok .cont, hr₂ => exact hr₂.elim
      | .ok (.ret r), hr₂ =>
        obtain ⟨rfl, h', tk, c, rfl, hO⟩ := hr₂
        repeat (any_goals (first | assumption | wp_step))
        exact fin _ _ _ hO
end
section
variable {X : Cx}
def rSetL (K : PySem.W.Frag) (w : World) : List V → Hp → VK → Prop := fun xs H Q => ∃ (l : Addr) (ns : List Int), xs = [.ref l] ∧ SqL K H l (ns.map V.int) ∧ ns.length ≤ 1000 ∧ ∀ p c, H p = none → c ≤ ns.length → Q (.ref p) (upd H p (SetO w p (fun j => decide (j ∈ ns)) c))
theorem cr_setL (hc : X.calm = true) : CallR X (.type "set") (rSetL X.K X.w) := by
  intro pins s σ H xs us Q I r h
  obtain ⟨l, ns, rfl, hl, hn, q⟩ := h
  obtain ⟨its, rv, pl, _⟩ := I.list hl
  rw [Vals.ref1 r]
  refine call_setL ns (I.ok.hd hc) pl.isList (by simpa using ints_of_vals rv) (by unfold scanBound; omega) fun h' tk c ⟨R, hc', k⟩ => ?_
  exact ⟨.ref s.heap.objs.size, _, I.laid (t' := tk) k (Nat.le_refl _) (setO_new R), rfl, q _ c (I.hok.fresh (Nat.le_refl _)) hc'⟩
end

/-! ### the regions that take -/
/-- T: taken. Each place leads to a later one, with none free between; a free one leads to itself -/
structure UF (n : Nat) (T : Nat → Prop) (o : List Nat) : Prop where
  len : o.length = n + 1
  at' : ∀ k, k ≤ n → ∃ v, o[k]? = some v ∧ k ≤ v ∧ v ≤ n ∧ (v = k ↔ (k = n ∨ ¬ T k)) ∧ ∀ m, k ≤ m → m < v → T m
abbrev oV (o : List Nat) : List V := o.map fun (x : Nat) => V.int (x : Int)
theorem oV_at {o : List Nat} {k v : Nat} (h : o[k]? = some v) : atI (oV o) (k : Int) = some (.int (v : Int)) := atI_nat (by simp [h])
theorem oV_set {o : List Nat} {k v : Nat} : (oV o).set k (.int (v : Int)) = oV (o.set k v) := by
  unfold oV
  rw [List.map_set]
def spFree : Sp := fun vs H Q _ => ∃ (l : Addr) (o : List Nat) (n : Nat) (T : Nat → Prop) (ix : Nat), vs = [.ref l, .int (ix : Int)] ∧ H l = some (.lst (oV o)) ∧ UF n T o ∧ ix ≤ n ∧
  ∀ (o' : List Nat) (j : Nat) (H' : Hp), UF n T o' → ix ≤ j → j ≤ n → (j = n ∨ ¬ T j) → (∀ m, ix ≤ m → m < j → T m) → H' l = some (.lst (oV o')) → (∀ b u, H b = some u → b ≠ l → H' b = some u) → Q (.int (j : Int)) H'
theorem UF.set {n k v : Nat} {T : Nat → Prop} {o : List Nat} (u : UF n T o) (hk : k ≤ n) (h1 : k ≤ v) (h2 : v ≤ n) (h3 : v = k ↔ (k = n ∨ ¬ T k)) (h4 : ∀ m, k ≤ m → m < v → T m) : UF n T (o.set k v) := by
  refine ⟨by simp [u.len], fun j hj => ?_⟩
  by_cases e : j = k
  · subst e
    exact ⟨v, List.getElem?_set_self (by rw [u.len]; omega), h1, h2, h3, h4⟩
  · obtain ⟨w, q⟩ := u.at' j hj
    refine ⟨w, ?_, q.2⟩
    rw [List.getElem?_set_ne (Ne.symm e)]
    exact q.1
theorem ixN_nat {n k : Nat} (h : k < n) : ixN n (k : Int) = some k := by
  unfold ixN
  simp
  omega
section
variable {P : Program} {w : World} {K : PySem.W.Frag} {mg : Str → Option Value} {base : Heap} {a : Ad}
theorem ok_first_free (T : Txt K mg a) : FnOk P w K mg base CX0 1 a.f_first_free a.d_first_free ["onward", "index"] spFree := by
  refine T.F__first_free.ok sc_first_free (fun vs H Q E h => ?_) (fun cdv A outer s H vs Q E hr h => ?_)
  · obtain ⟨_, _, _, _, _, rfl, _⟩ := h; rfl
  · obtain ⟨l, o, n, Tk, ix, rfl, hl, u, hix, q⟩ := h
    refine ⟨_, (pss_cons (ps_while PassesOwn.never (pt_cmpR op_ne (pe_ix ix_list (pv 0) (pv 1) (fun _ _ => rfl)) (pv 1) (nomark _)) (pss_cons (ps_asg (pe_ix ix_list (pv 0) (pe_ix ix_list (pv 0) (pv 1) (fun _ _ => rfl)) (fun _ _ => rfl)) (pg_sub (pv 0) (pv 1) set_list))
      (pss_one (ps_set (i := 1) sc_first_free.nd rfl (Or.inl rfl) (pe_ix ix_list (pv 0) (pv 1) (fun _ _ => rfl))))))
      (pss_one (ps_ret (pv 1)))), ?_⟩
    refine ⟨fun m σ H' => ∃ (o' : List Nat) (j : Nat), m = n - j ∧ σ = [some (.ref l), some (.int (j : Int))] ∧ H' l = some (.lst (oV o')) ∧ UF n Tk o' ∧ ix ≤ j ∧ j ≤ n ∧ (∀ m, ix ≤ m → m < j → Tk m) ∧ ∀ b u, H b = some u → b ≠ l → H' b = some u,
      ⟨_, o, ix, rfl, rfl, hl, u, Nat.le_refl _, hix, (fun m h1 h2 => absurd h1 (by omega)), fun _ _ e _ => e⟩, ?_⟩
    · rintro mm σ H' ⟨o', j, rfl, rfl, hl', u', h1, h2, h3, fr⟩
      obtain ⟨v, e1, v1, v2, v3, v4⟩ := u'.at' j h2
      obtain ⟨x, g1, x1, x2, x3, x4⟩ := u'.at' v v2
      refine ⟨_, rfl, _, rfl, _, _, _, _, rfl, rfl, SqL.of hl', oV_at e1, _, rfl, rfl, _, rfl, ite3 (fun c => ?_) (fun c => ?_)⟩
      · have hvj : v ≠ j := fun e => by rw [e] at c; simp at c
        refine ⟨fun σ' H'' => ∃ m', m' < n - j ∧ ∃ (o' : List Nat) (j : Nat), m' = n - j ∧ σ' = [some (.ref l), some (.int (j : Int))] ∧ H'' l = some (.lst (oV o')) ∧ UF n Tk o' ∧ ix ≤ j ∧ j ≤ n ∧ (∀ m, ix ≤ m → m < j → Tk m) ∧ ∀ b u, H b = some u → b ≠ l → H'' b = some u, fun _ _ h => h, ?_⟩
        refine ⟨_, rfl, _, rfl, _, rfl, _, _, _, _, rfl, rfl, SqL.of hl', oV_at e1, _, _, _, _, rfl, rfl, SqL.of hl', oV_at g1, ?_⟩
        refine ⟨_, rfl, _, rfl, _, _, _, _, rfl, rfl, hl', ixN_nat (by rw [List.length_map, u'.len]; omega), ?_⟩
        rw [oV_set]
        have hTj : Tk j := v4 j (Nat.le_refl _) (by omega)
        have u2 : UF n Tk (o'.set j x) := u'.set h2 (by omega) x2 ⟨fun e => absurd e (by omega), fun e => by rcases e with e | e; omega; exact absurd hTj e⟩ fun m m1 m2 => by
          by_cases e : m < v
          · exact v4 m m1 e
          · exact x4 m (by omega) m2
        have e3 : (o'.set j x)[j]? = some x := List.getElem?_set_self (by rw [u'.len]; omega)
        refine ⟨_, rfl, _, rfl, _, _, _, _, rfl, rfl, SqL.of upd_same, oV_at e3, ?_⟩
        refine ⟨n - x, by omega, o'.set j x, x, rfl, rfl, upd_same, u2, by omega, x2, fun m m1 m2 => ?_, fun b w e n => by rw [upd_ne n]; exact fr b w e n⟩
        by_cases e : m < j
        · exact h3 m m1 e
        · by_cases e' : m < v
          · exact v4 m (by omega) e'
          · exact x4 m (by omega) m2
      · have hvj : v = j := by
          have : (V.int (v : Int)) = V.int (j : Int) := by
            by_cases e : V.int (v : Int) = V.int (j : Int)
            · exact e
            · rw [decide_eq_false e] at c; cases c
          injection this with this
          omega
        exact ⟨_, rfl, q o' j H' u' h1 h2 (v3.mp hvj) h3 hl' fr⟩
end

/-! ### taken_regions -/
def isN : PyData → Bool
  | .none => true
  | _ => false
def RegOk (n : Nat) (r : List Int) : Prop := r.length = 5 ∧ 0 ≤ r.getD 0 0 ∧ r.getD 0 0 ≤ n ∧ 0 ≤ r.getD 1 0 ∧ r.getD 1 0 ≤ n
def TD (K : PySem.W.Frag) (H : Hp) (ts : List V) (n : Nat) (f : Nat → PyData) : Prop := ts.length = n ∧ ∀ k, k < n → ∃ v, ts[k]? = some v ∧ DT K H v (f k)
theorem TD.dts {K : PySem.W.Frag} {H : Hp} : ∀ {n : Nat} {ts : List V} {f : Nat → PyData}, TD K H ts n f → DTs K H ts ((List.range n).map f)
  | 0, ts, f, ⟨h, _⟩ => by
    cases ts with
    | nil => exact .nil
    | cons _ _ => simp at h
  | n + 1, ts, f, ⟨h, g⟩ => by
    cases ts with
    | nil => simp at h
    | cons v r =>
      obtain ⟨v0, e0, d0⟩ := g 0 (by omega)
      obtain rfl : v = v0 := by simpa using e0
      rw [List.range_succ_eq_map, List.map_cons, List.map_map]
      refine .cons d0 (TD.dts ⟨by simpa using h, fun k hk => ?_⟩)
      obtain ⟨v1, e1, d1⟩ := g (k + 1) (by omega)
      exact ⟨v1, by simpa using e1, d1⟩
theorem TD.keep {K : PySem.W.Frag} {H H' : Hp} {ts : List V} {n : Nat} {f : Nat → PyData} (k : KT K H H') (h : TD K H ts n f) : TD K H' ts n f :=
  ⟨h.1, fun j hj => by obtain ⟨v, e, d⟩ := h.2 j hj; exact ⟨v, e, d.keep k⟩⟩
theorem TD.congr {K : PySem.W.Frag} {H : Hp} {ts : List V} {n : Nat} {f g : Nat → PyData} (h : TD K H ts n f) (e : ∀ k, k < n → f k = g k) : TD K H ts n g :=
  ⟨h.1, fun j hj => by obtain ⟨v, e1, d⟩ := h.2 j hj; exact ⟨v, e1, by rw [← e j hj]; exact d⟩⟩
theorem TD.set {K : PySem.W.Frag} {H : Hp} {ts : List V} {n j : Nat} {f : Nat → PyData} {v : V} {d : PyData} (h : TD K H ts n f) (hj : j < n) (hd : DT K H v d) : TD K H (ts.set j v) n (fun k => if k = j then d else f k) := by
  refine ⟨by simp [h.1], fun k hk => ?_⟩
  by_cases e : k = j
  · subst e
    exact ⟨v, List.getElem?_set_self (by rw [h.1]; exact hk), by simpa using hd⟩
  · obtain ⟨w, e1, dw⟩ := h.2 k hk
    exact ⟨w, by rw [List.getElem?_set_ne (Ne.symm e)]; exact e1, by simpa [e] using dw⟩
theorem UF.congr {n : Nat} {T T' : Nat → Prop} {o : List Nat} (u : UF n T o) (h : ∀ m, m < n → (T m ↔ T' m)) : UF n T' o := by
  refine ⟨u.len, fun k hk => ?_⟩
  obtain ⟨v, e, v1, v2, v3, v4⟩ := u.at' k hk
  refine ⟨v, e, v1, v2, v3.trans ?_, fun m m1 m2 => (h m (by omega)).mp (v4 m m1 m2)⟩
  by_cases c : k = n
  · simp [c]
  · rw [h k (by omega)]
/-- what is taken while a region is gone through, up to the place J -/
def cur (old : Nat → PyData) (r : List Int) (J k : Nat) : PyData := if isN (old k) = true then (if r.getD 0 0 ≤ (k : Int) ∧ k < J ∧ (k : Int) < r.getD 1 0 then regD r else .none) else old k
theorem isN_reg (r : List Int) : isN (regD r) = false := rfl
theorem isN_eq {d : PyData} (h : isN d = true) : d = .none := by
  cases d <;> first | rfl | cases h
theorem findR_step {rs : List (List Int)} {i : Nat} {r : List Int} (er : rs[i]? = some r) (x : Int) : findR (rs.take (i + 1)) x = if isN (findR (rs.take i) x) = true then (if inR x r = true then regD r else .none) else findR (rs.take i) x := by
  unfold findR
  rw [List.take_succ, er, List.find?_append]
  cases e : (rs.take i).find? (inR x) with
  | some r' => simp [isN_reg]
  | none => cases e2 : inR x r <;> simp [e2, isN]
def spTaken (K : PySem.W.Frag) (C : Addr) : Sp := fun vs H Q _ => ∃ (p dx : Addr) (v0 v1 v2 v3 v4 : V) (ca ra : Addr) (cs xs : List V) (rs : List (List Int)) (n : Nat), vs = [.ref p] ∧ H p = some (.ins C dx (unF v0 v1 v2 v3 v4 (.ref ca) (.ref ra))) ∧ SqT K H ca cs ∧ cs.length = n ∧ n ≤ 100000 ∧
  SqT K H ra xs ∧ DTs K H xs (rs.map regD) ∧ (∀ r ∈ rs, RegOk n r) ∧ ∀ (L : Addr) (ts : List V) (H' : Hp), H L = none → H' L = some (.lst ts) → TD K H' ts n (fun k => findR rs (k : Int)) → Same H H' → Q (.ref L) H'
theorem rgV_oV (n : Nat) : rgV 0 ((n : Int) + 1) = oV (List.range (n + 1)) := by
  unfold rgV oV
  rw [show ((n : Int) + 1 - 0).toNat = n + 1 by omega, List.map_inj_left]
  intro k _
  simp
theorem cur_next {old : Nat → PyData} {r : List Int} {j k : Nat} (h0 : r.getD 0 0 ≤ (j : Int)) (h1 : (j : Int) < r.getD 1 0) (hj : isN (cur old r j j) = true) : (if k = j then regD r else cur old r j k) = cur old r (j + 1) k := by
  have ho : isN (old j) = true := by
    unfold cur at hj
    cases e : isN (old j) with
    | true => rfl
    | false => simp [e] at hj
  by_cases e : k = j
  · subst e
    rw [if_pos rfl]
    unfold cur
    rw [if_pos ho, if_pos ⟨h0, by omega, h1⟩]
  · rw [if_neg e]
    unfold cur
    have : (r.getD 0 0 ≤ (k : Int) ∧ k < j ∧ (k : Int) < r.getD 1 0) ↔ (r.getD 0 0 ≤ (k : Int) ∧ k < j + 1 ∧ (k : Int) < r.getD 1 0) := by omega
    simp only [this]
theorem cur_skip {old : Nat → PyData} {r : List Int} {j j' k : Nat} (hj : j ≤ j') (h : ∀ m, j ≤ m → m < j' → isN (cur old r j m) = false) : cur old r j k = cur old r j' k := by
  unfold cur
  by_cases e : isN (old k) = true
  · rw [if_pos e, if_pos e]
    by_cases c : j ≤ k ∧ k < j'
    · have := h k c.1 c.2
      unfold cur at this
      rw [if_pos e, if_neg (by omega)] at this
      cases this
    · have : (r.getD 0 0 ≤ (k : Int) ∧ k < j ∧ (k : Int) < r.getD 1 0) ↔ (r.getD 0 0 ≤ (k : Int) ∧ k < j' ∧ (k : Int) < r.getD 1 0) := by omega
      simp only [this]
  · rw [if_neg e, if_neg e]
theorem cur_zero {old : Nat → PyData} {r : List Int} {J k : Nat} (h : (J : Int) ≤ r.getD 0 0) : cur old r J k = old k := by
  unfold cur
  by_cases e : isN (old k) = true
  · rw [if_pos e, if_neg (by omega), isN_eq e]
  · rw [if_neg e]
theorem cur_end {old : Nat → PyData} {r : List Int} {J k : Nat} (h : r.getD 1 0 ≤ (J : Int)) : cur old r J k = if isN (old k) = true then (if inR (k : Int) r = true then regD r else .none) else old k := by
  unfold cur
  have : (r.getD 0 0 ≤ (k : Int) ∧ k < J ∧ (k : Int) < r.getD 1 0) ↔ inR (k : Int) r = true := by
    unfold inR
    simp only [Bool.and_eq_true, decide_eq_true_eq]
    omega
  simp only [this]
section
variable {P : Program} {w : World} {K : PySem.W.Frag} {mg : Str → Option Value} {base : Heap} {a : Ad}
theorem ok_taken_regions (T : Txt K mg a) : FnOk P w K mg base CX0 2 a.f_taken_regions a.d_taken_regions ["unit"] (spTaken K a.C_Unit) := by
  have G_first_free : FnOk P w K mg base CX0 1 _ _ _ _ := ok_first_free T
  refine T.F_taken_regions.ok sc_taken_regions (fun vs H Q E h => ?_) (fun cdv A outer s H vs Q E hr h => ?_)
  · obtain ⟨_, _, _, _, _, _, _, _, _, _, _, _, _, rfl, _⟩ := h; rfl
  · obtain ⟨p, dx, v0, v1, v2, v3, v4, ca, ra, cs, xs, rs, n, rfl, hp, hca, hn, hn2, hra, hxs, hok, q⟩ := h
    have hz := sizeLine_eq
    have hlx := hxs.len
    subst hn
    refine ⟨_, (pss_cons (ps_set (i := 1) sc_taken_regions.nd rfl (Or.inl rfl) (pe_callB call_len_seq (by rfl) T.b_len (by decide +kernel) (pa_cons (pe_fld (pv 0) rfl) pa_nil)))
      (pss_cons (ps_set (i := 2) sc_taken_regions.nd rfl (Or.inl rfl) (pe_op op_rep (pe_lst (pa_cons pe_non pa_nil)) (pv 1)))
      (pss_cons (ps_set (i := 3) sc_taken_regions.nd rfl (Or.inl rfl) (pe_listRg rfl (by rfl) T.b_list (prg_1 (by rfl) T.b_range (pe_op op_add (pv 1) pe_int))))
      (pss_cons (ps_for PassesOwn.never rfl (pi_tup (pe_fld (pv 0) rfl)) (pg_name (i := 4) sc_taken_regions.nd rfl (Or.inl rfl)) (pss_cons (ps_set (i := 5) sc_taken_regions.nd rfl (Or.inl rfl) (pe_call G_first_free (hr.mono (by decide)) rfl T.g__first_free T.k__first_free T.bd__first_free .nil pass0 (pa_cons (pv 3) (pa_cons (pe_ix ix_tup (pv 4) pe_int (fun _ _ => rfl)) pa_nil))))
      (pss_one (ps_while PassesOwn.never (pt_cmpR op_lt (pv 5) (pe_ix ix_tup (pv 4) pe_int (fun _ _ => rfl)) (nomark _)) (pss_cons (ps_asg (pv 4) (pg_sub (pv 2) (pv 5) set_list))
      (pss_cons (ps_asg (pe_op op_add (pv 5) pe_int) (pg_sub (pv 3) (pv 5) set_list))
      (pss_one (ps_set (i := 5) sc_taken_regions.nd rfl (Or.inl rfl) (pe_call G_first_free (hr.mono (by decide)) rfl T.g__first_free T.k__first_free T.bd__first_free .nil pass0 (pa_cons (pv 3) (pa_cons (pv 5) pa_nil)))))))))))
      (pss_one (ps_ret (pv 2))))))), ?_⟩
    refine ⟨_, rfl, p, a.C_Unit, dx, _, _, rfl, hp, T.cl_Unit, T.n_Unit_code, un_cd _ _ _ _ _ _ _, _, _, rfl, .inr hca, ?_⟩
    refine ⟨(by show 1 ≤ sizeLine; decide), fun l1 m1 => ⟨_, rfl, _, _, _, rfl, rfl, upd_same, by omega, by omega, (by simp; omega), fun L nL => ?_⟩⟩
    have s1 := sN (Same.refl H) m1 (o := .lst [V.non])
    have nL0 : H L = none := by
      by_cases e : H L = none
      · exact e
      · obtain ⟨u, hu⟩ := Option.ne_none_iff_exists'.mp e
        rw [s1 _ _ hu] at nL; cases nL
    have s2 := sN s1 nL (o := .lst ((List.replicate ((cs.length : Int)).toNat [V.non]).flatten))
    refine ⟨_, rfl, _, _, rfl, rfl, _, rfl, ⟨by omega, by omega, by omega, by omega, by omega⟩, fun O nO => ?_⟩
    have s3 := sN s2 nO (o := .lst (rgV 0 ((cs.length : Int) + 1)))
    have nLO : L ≠ O := ne_of_none upd_same nO
    have nO0 : H O = none := by
      by_cases e : H O = none
      · exact e
      · obtain ⟨u, hu⟩ := Option.ne_none_iff_exists'.mp e
        rw [s2 _ _ hu] at nO; cases nO
    have hp3 := s3 _ _ hp
    have hra3 := seqT s3 hra
    refine ⟨_, rfl, p, a.C_Unit, dx, _, _, rfl, hp3, T.cl_Unit, T.n_Unit_regions, un_rg _ _ _ _ _ _ _, ra, rfl, ⟨_, hra3⟩, ?_⟩
    refine for_tup (K := K) (a := ra) (xs := xs) (fun i σ H' => ∃ (o : List Nat) (ts : List V) (og oi : Option V), σ = [some (.ref p), some (.int (cs.length : Int)), some (.ref L), some (.ref O), og, oi] ∧ H' O = some (.lst (oV o)) ∧ H' L = some (.lst ts) ∧ TD K H' ts cs.length (fun k => findR (rs.take i) (k : Int)) ∧ UF cs.length (fun m => isN (findR (rs.take i) (m : Int)) = false) o ∧ Same H H')
      ⟨List.range (cs.length + 1), _, _, _, rfl, by rw [upd_same, ← rgV_oV], by rw [upd_ne nLO, upd_same], ⟨by simp, fun k hk => ⟨.non, by simp [hk], .non⟩⟩, ⟨by simp, fun k hk => ⟨k, List.getElem?_range (by omega), Nat.le_refl _, hk, by simp [findR, isN], fun m m1 m2 => absurd m1 (by omega)⟩⟩, s3⟩
      (fun i σ H' _ ⟨_, _, _, _, _, _, _, _, _, ss⟩ => seqT ss hra) ?_ ?_
    · rintro i x σ H1 hx ⟨o, ts, og, oi, rfl, hO, hL, td, uf, ss⟩
      obtain ⟨d, ed, dx1⟩ := hxs.at hx
      rw [List.getElem?_map] at ed
      obtain ⟨r, er, rfl⟩ := Option.map_eq_some_iff.mp ed
      obtain ⟨h5, a0, a1, b0, b1⟩ := hok r (List.mem_of_getElem? er)
      obtain ⟨pb, ys, rfl, hys, hd2⟩ := dx1.ts
      obtain ⟨u0, e0, k0⟩ := hd2.it 0 (ints_get (r := r) (i := 0) (by omega))
      obtain ⟨u1, e1, k1⟩ := hd2.it 1 (ints_get (r := r) (i := 1) (by omega))
      cases k0.i
      cases k1.i
      have hstep := fun (x : Int) => findR_step er x
      obtain ⟨ra0, era⟩ : ∃ k : Nat, r.getD 0 0 = (k : Int) := ⟨(r.getD 0 0).toNat, by omega⟩
      obtain ⟨rb0, erb⟩ : ∃ k : Nat, r.getD 1 0 = (k : Int) := ⟨(r.getD 1 0).toNat, by omega⟩
      have hdR : ∀ {H' : Hp}, Same H H' → DT K H' (.ref pb) (regD r) := fun s => dx1.keep (KT.same s)
      refine ⟨_, rfl, _, rfl, _, _, _, _, rfl, rfl, seqT ss hys, e0, O, o, cs.length, _, ra0, (by rw [era]; rfl), hO, uf, by omega, fun o1 j H2 u1' j1 j2 j3 j4 hO2 fr => ?_⟩
      have ss2 : Same H H2 := fun b u e => fr b u (ss b u e) (ne_of_none e nO0)
      have hL2 := fr _ _ hL nLO
      have kt : KT K H1 H2 := fun b zs h => by
        rcases h with (h | ⟨u, h⟩) | h
        · exact .inl (.inl (fr _ _ h (ne_of h hO fun z => nomatch z)))
        · exact .inl (.inr ⟨u, fr _ _ h (ne_of h hO fun z => nomatch z)⟩)
        · exact .inr h
      have td2 := td.keep kt
      clear kt fr hO hL td uf ss
      have ex := fun (k : Nat) => hstep (k : Int)
      generalize hold : (fun k : Nat => findR (rs.take i) (k : Int)) = old at td2
      have hold' : ∀ k : Nat, findR (rs.take i) (k : Int) = old k := fun k => congrFun hold k
      simp only [hold'] at u1' j3 j4 ex
      have js : cur old r ra0 = cur old r j := funext fun k => cur_skip j1 fun m m1 m2 => by rw [cur_zero (by omega)]; exact j4 m m1 m2
      have j0 : old = cur old r ra0 := funext fun k => (cur_zero (by omega)).symm
      have td3 : TD K H2 ts cs.length (cur old r j) := td2.congr fun k hk => by rw [← js, ← j0]
      have u3 : UF cs.length (fun m => isN (cur old r j m) = false) o1 := u1'.congr fun m hm => by rw [← js, ← j0]
      have f3 : j = cs.length ∨ isN (cur old r j j) = true := by
        rcases j3 with e | e
        · exact .inl e
        · right
          rw [← js, ← j0]
          simpa using e
      have l3 : r.getD 0 0 ≤ (j : Int) := by omega
      clear j4 j3 u1' td2 js
      refine ⟨fun m σ H' => ∃ (o : List Nat) (ts : List V) (j : Nat), m = cs.length - j ∧ σ = [some (.ref p), some (.int (cs.length : Int)), some (.ref L), some (.ref O), some (.ref pb), some (.int (j : Int))] ∧ H' O = some (.lst (oV o)) ∧ H' L = some (.lst ts) ∧ TD K H' ts cs.length (cur old r j) ∧ UF cs.length (fun m => isN (cur old r j m) = false) o ∧ Same H H' ∧
          j ≤ cs.length ∧ r.getD 0 0 ≤ (j : Int) ∧ (j = cs.length ∨ isN (cur old r j j) = true), ⟨_, o1, ts, j, rfl, rfl, hO2, hL2, td3, u3, ss2, j2, l3, f3⟩, ?_⟩
      clear hO2 hL2 td3 u3 ss2 j2 l3 f3 j1
      rintro mm σ H3 ⟨o, ts, j, rfl, rfl, hO, hL, td, uf, ss, hj, hj0, hjf⟩
      refine ⟨_, rfl, _, rfl, _, _, _, _, rfl, rfl, seqT ss hys, e1, _, _, rfl, rfl, _, rfl, ite3 (fun c => ?_) (fun c => ?_)⟩
      · have hjb : (j : Int) < r.getD 1 0 := of_decide_eq_true c
        have hjn : j < cs.length := by omega
        have hfree : isN (cur old r j j) = true := by
          rcases hjf with e | e
          · omega
          · exact e
        refine ⟨fun σ' H' => ∃ m', m' < cs.length - j ∧ ∃ (o : List Nat) (ts : List V) (j : Nat), m' = cs.length - j ∧ σ' = [some (.ref p), some (.int (cs.length : Int)), some (.ref L), some (.ref O), some (.ref pb), some (.int (j : Int))] ∧ H' O = some (.lst (oV o)) ∧ H' L = some (.lst ts) ∧ TD K H' ts cs.length (cur old r j) ∧ UF cs.length (fun m => isN (cur old r j m) = false) o ∧ Same H H' ∧
          j ≤ cs.length ∧ r.getD 0 0 ≤ (j : Int) ∧ (j = cs.length ∨ isN (cur old r j j) = true), fun _ _ h => h, ?_⟩
        refine ⟨_, rfl, _, rfl, _, rfl, _, _, _, _, rfl, rfl, hL, ixN_nat (by rw [td.1]; exact hjn), ?_⟩
        have hO4 : upd H3 L (.lst (ts.set j (.ref pb))) O = some (.lst (oV o)) := by rw [upd_ne nLO.symm]; exact hO
        refine ⟨_, rfl, _, _, rfl, rfl, _, rfl, _, rfl, _, _, _, _, rfl, rfl, hO4, ixN_nat (by rw [List.length_map, uf.len]; omega), ?_⟩
        have e2 : (oV o).set j (.int ((j : Int) + 1)) = oV (o.set j (j + 1)) := by
          rw [show ((j : Int) + 1) = ((j + 1 : Nat) : Int) by omega, oV_set]
        have hOs : upd (upd H3 L (.lst (ts.set j (.ref pb)))) O (.lst ((oV o).set j (.int ((j : Int) + 1)))) O = some (.lst (oV (o.set j (j + 1)))) := by rw [upd_same, e2]
        have td4 : TD K H3 (ts.set j (.ref pb)) cs.length (cur old r (j + 1)) := (td.set hjn (hdR ss)).congr fun k hk => cur_next hj0 hjb hfree
        have tkn : isN (cur old r (j + 1) j) = false := by rw [← cur_next hj0 hjb hfree, if_pos rfl]; exact isN_reg r
        have u4 : UF cs.length (fun m => isN (cur old r (j + 1) m) = false) (o.set j (j + 1)) := by
          have hne : ∀ m, m ≠ j → cur old r (j + 1) m = cur old r j m := fun m hm => by rw [← cur_next hj0 hjb hfree, if_neg hm]
          refine ⟨by simp [uf.len], fun k hk => ?_⟩
          by_cases e : k = j
          · subst e
            exact ⟨k + 1, List.getElem?_set_self (by rw [uf.len]; omega), by omega, by omega, ⟨fun z => absurd z (by omega), fun z => by rcases z with z | z; omega; exact absurd tkn z⟩, fun m m1 m2 => by rw [show m = k by omega]; exact tkn⟩
          · obtain ⟨v, w1, w2, w3, w4, w5⟩ := uf.at' k hk
            refine ⟨v, by rw [List.getElem?_set_ne (Ne.symm e)]; exact w1, w2, w3, by rw [hne k e]; exact w4, fun m m1 m2 => ?_⟩
            by_cases e' : m = j
            · rw [e']; exact tkn
            · rw [hne m e']; exact w5 m m1 m2
        have ss5 : Same H (upd (upd H3 L (.lst (ts.set j (.ref pb)))) O (.lst ((oV o).set j (.int ((j : Int) + 1))))) := sUpd (sUpd ss nL0) nO0
        refine ⟨_, rfl, _, rfl, O, o.set j (j + 1), cs.length, _, j, rfl, hOs, u4, by omega, fun o5 j5 H5 u5 q1 q2 q3 q4 hO5 fr5 => ?_⟩
        have hL4 : upd (upd H3 L (.lst (ts.set j (.ref pb)))) O (.lst ((oV o).set j (.int ((j : Int) + 1)))) L = some (.lst (ts.set j (.ref pb))) := by rw [upd_ne nLO, upd_same]
        have hL5 := fr5 _ _ hL4 nLO
        have k5 : KT K H3 H5 := ((KT.put hL).tr (KT.put hO4)).tr fun b zs h => by
          rcases h with (h | ⟨u, h⟩) | h
          · exact .inl (.inl (fr5 _ _ h (ne_of h hOs fun z => nomatch z)))
          · exact .inl (.inr ⟨u, fr5 _ _ h (ne_of h hOs fun z => nomatch z)⟩)
          · exact .inr h
        have hj5 : j + 1 ≤ j5 := by
          by_cases e : j5 = j
          · subst e
            rcases q3 with e | e
            · omega
            · exact absurd tkn e
          · omega
        have sk : cur old r (j + 1) = cur old r j5 := funext fun k => cur_skip hj5 fun m m1 m2 => q4 m (by omega) m2
        refine ⟨cs.length - j5, by omega, o5, ts.set j (.ref pb), j5, rfl, rfl, hO5, hL5, by rw [← sk]; exact td4.keep k5, by rw [← sk]; exact u5, fun b u e => fr5 b u (ss5 b u e) (ne_of_none e nO0), q2, by omega, ?_⟩
        rw [← sk]
        rcases q3 with e | e
        · exact .inl e
        · exact .inr (by simpa using e)
      · have hjb : r.getD 1 0 ≤ (j : Int) := by
          have := of_decide_eq_false c
          omega
        refine ⟨o, ts, _, _, rfl, hO, hL, td.congr fun k hk => ?_, uf.congr fun m hm => ?_, ss⟩
        · rw [cur_end hjb, ex k]
        · rw [cur_end hjb, ex m]
    · rintro σ H1 ⟨o, ts, og, oi, rfl, hO, hL, td, uf, ss⟩
      rw [hlx, List.length_map, List.take_length] at td
      exact ⟨_, rfl, q L ts H1 nL0 hL td ss⟩
end

section
variable {K : PySem.W.Frag} {H H' : Hp}
theorem lay {p : Addr} {vs : List V} {ds : List PyData} (np : H p = none) (h : DTs K H vs ds) : DT K (upd H p (.tup vs)) (.ref p) (.tuple ds) := .tup (SqT.of upd_same) (h.keep (KT.new np))
theorem dts_ints : ∀ (js : List Int), DTs K H (js.map V.int) (js.map .int)
  | [] => .nil
  | j :: r => .cons (.int j) (dts_ints r)
end
theorem sorted_ext : ∀ {xs ys : List Int}, xs.Pairwise (· < ·) → ys.Pairwise (· < ·) → (∀ k, k ∈ xs ↔ k ∈ ys) → xs = ys
  | [], [], _, _, _ => rfl
  | [], y :: _, _, _, h => absurd ((h y).mpr List.mem_cons_self) (by simp)
  | x :: _, [], _, _, h => absurd ((h x).mp List.mem_cons_self) (by simp)
  | x :: xs, y :: ys, hx, hy, h => by
    obtain ⟨a1, a2⟩ := List.pairwise_cons.mp hx
    obtain ⟨b1, b2⟩ := List.pairwise_cons.mp hy
    have e : x = y := by
      have h1 := (h x).mp List.mem_cons_self
      have h2 := (h y).mpr List.mem_cons_self
      rcases List.mem_cons.mp h1 with h1 | h1
      · exact h1
      · rcases List.mem_cons.mp h2 with h2 | h2
        · exact h2.symm
        · have := b1 x h1
          have := a1 y h2
          omega
    subst e
    rw [sorted_ext a2 b2 fun k => ?_]
    constructor
    · intro hk
      rcases List.mem_cons.mp ((h k).mp (List.mem_cons_of_mem _ hk)) with e | e
      · have := a1 k hk; omega
      · exact e
    · intro hk
      rcases List.mem_cons.mp ((h k).mpr (List.mem_cons_of_mem _ hk)) with e | e
      · have := b1 k hk; omega
      · exact e
theorem pair_sorted {t b : Int} {ns : List Int} (h : ns.Pairwise (· < ·)) (m : ∀ k, k ∈ ns ↔ decide (k ∈ [t, b]) = true) : (t ≠ b → ns = [mn t b, mx t b]) ∧ (t = b → ns = [b]) := by
  refine ⟨fun e => sorted_ext h (List.pairwise_cons.mpr ⟨?_, List.pairwise_singleton _ _⟩) fun k => ?_, fun e => sorted_ext h (List.pairwise_singleton _ _) fun k => ?_⟩
  · intro y hy
    rw [List.mem_singleton.mp hy]
    unfold mn mx
    split <;> split <;> omega
  · rw [m k]
    simp only [decide_eq_true_eq, List.mem_cons, List.not_mem_nil, or_false]
    unfold mn mx
    split <;> split <;> omega
  · rw [m k]
    simp only [decide_eq_true_eq, List.mem_cons, List.not_mem_nil, or_false]
    omega

/-! ### edges -/
def ins (x : Int) : List Int → List Int
  | [] => [x]
  | y :: r => if x < y then x :: y :: r else if x = y then y :: r else y :: ins x r
def canon (l : List Int) : List Int := l.foldr ins []
theorem mem_ins {x k : Int} : ∀ {l : List Int}, k ∈ ins x l ↔ k = x ∨ k ∈ l
  | [] => by simp [ins]
  | y :: r => by
    have ih := mem_ins (x := x) (k := k) (l := r)
    unfold ins
    split
    · simp
    · split
      · rename_i e; subst e; simp
      · rw [List.mem_cons, ih, List.mem_cons]
        constructor
        · rintro (h | h | h) <;> simp [h]
        · rintro (h | h | h) <;> simp [h]
theorem ins_sorted {x : Int} : ∀ {l : List Int}, l.Pairwise (· < ·) → (ins x l).Pairwise (· < ·)
  | [], _ => List.pairwise_singleton _ _
  | y :: r, h => by
    obtain ⟨h1, h2⟩ := List.pairwise_cons.mp h
    unfold ins
    split
    · rename_i c
      refine List.pairwise_cons.mpr ⟨fun z hz => ?_, h⟩
      rcases List.mem_cons.mp hz with e | e
      · rw [e]; exact c
      · have := h1 z e; omega
    · split
      · exact h
      · refine List.pairwise_cons.mpr ⟨fun z hz => ?_, ins_sorted h2⟩
        rcases mem_ins.mp hz with e | e
        · rw [e]; omega
        · exact h1 z e
theorem mem_canon {k : Int} : ∀ {l : List Int}, k ∈ canon l ↔ k ∈ l
  | [] => by simp [canon]
  | x :: r => by
    show k ∈ ins x (canon r) ↔ _
    rw [mem_ins, mem_canon, List.mem_cons]
theorem canon_sorted : ∀ {l : List Int}, (canon l).Pairwise (· < ·)
  | [] => List.Pairwise.nil
  | x :: r => ins_sorted canon_sorted
theorem canon_uniq {l ns : List Int} (h : ns.Pairwise (· < ·)) (m : ∀ k, k ∈ ns ↔ k ∈ l) : ns = canon l := sorted_ext h canon_sorted fun k => by rw [m k, mem_canon]
def nmOf : PyData → Str
  | .tuple (.str nm :: _) => nm
  | _ => ""
def intAt (D : PyData) (k : Nat) : Int := match D with
  | .tuple ds => match ds[k]? with
    | some (.int t) => t
    | _ => 0
  | _ => 0
def folL (D : PyData) (ix : Int) : List Int := if nmOf D = "jump" then [intAt D 1] else if nmOf D = "branch" then [intAt D 2, ix + 1] else if inV (.str (nmOf D)) lvs = true then [] else [ix + 1]
def entL (rs : List (List Int)) (ix : Int) : List Int := match rs.find? (inR ix) with
  | some r => [r.getD 2 0]
  | none => []
def wayL (D : PyData) (rs : List (List Int)) (ix : Int) : List Int := folL D ix ++ (if inV (.str (nmOf D)) rss = true then entL rs ix else [])
def InsOk (D : PyData) : Prop := ∃ nm ds, D = .tuple (.str nm :: ds) ∧ (nm = "jump" → ∃ t, ds[0]? = some (.int t)) ∧ (nm = "branch" → ∃ t, ds[1]? = some (.int t))
def edgeF (cs : List PyData) (rs : List (List Int)) (i : Nat) : PyData := .tuple ((canon (wayL (cs.getD i .none) rs (i : Int))).map .int)
theorem ins_len {x : Int} : ∀ {l : List Int}, (ins x l).length ≤ l.length + 1
  | [] => Nat.le_refl _
  | y :: r => by
    have ih := ins_len (x := x) (l := r)
    unfold ins
    split
    · simp
    · split
      · simp
      · simp only [List.length_cons]; omega
theorem canon_len : ∀ {l : List Int}, (canon l).length ≤ l.length
  | [] => Nat.le_refl _
  | x :: r => Nat.le_trans (ins_len (x := x) (l := canon r)) (Nat.succ_le_succ canon_len)
theorem folL_len {D : PyData} {ix : Int} : (folL D ix).length ≤ 2 := by
  unfold folL
  split
  · simp
  · split
    · simp
    · split <;> simp
theorem lvs_no : inV (.str "jump") lvs = false ∧ inV (.str "branch") lvs = false := by decide +kernel
theorem canon_one (x : Int) : canon [x] = [x] := rfl
theorem fo_ok {nm : Str} {ds : List PyData} {ix : Int} (h1 : nm = "jump" → ∃ t, ds[0]? = some (.int t)) (h2 : nm = "branch" → ∃ t, ds[1]? = some (.int t)) : FoOk nm (.str nm :: ds) ix ((canon (folL (.tuple (.str nm :: ds)) ix)).map .int) := by
  unfold folL
  show FoOk nm _ ix ((canon (if nm = "jump" then _ else if nm = "branch" then _ else if inV (.str nm) lvs = true then _ else _)).map .int)
  by_cases e1 : nm = "jump"
  · obtain ⟨t, e⟩ := h1 e1
    rw [if_pos e1]
    refine .inr (.inl ⟨by rw [e1]; exact lvs_no.1, e1, t, by simpa using e, ?_⟩)
    have : intAt (.tuple (.str nm :: ds)) 1 = t := by unfold intAt; simp [e]
    rw [this, canon_one]
    rfl
  rw [if_neg e1]
  by_cases e2 : nm = "branch"
  · obtain ⟨t, e⟩ := h2 e2
    rw [if_pos e2]
    have : intAt (.tuple (.str nm :: ds)) 2 = t := by unfold intAt; simp [e]
    rw [this]
    have hp := pair_sorted (t := t) (b := ix + 1) (canon_sorted (l := [t, ix + 1])) fun k => by rw [mem_canon]; simp
    by_cases c : t = ix + 1
    · rw [hp.2 c]
      exact .inr (.inr (.inr (.inl ⟨by rw [e2]; exact lvs_no.2, e1, e2, t, by simpa using e, c, rfl⟩)))
    · rw [hp.1 c]
      exact .inr (.inr (.inl ⟨by rw [e2]; exact lvs_no.2, e1, e2, t, by simpa using e, c, rfl⟩))
  rw [if_neg e2]
  cases c : inV (.str nm) lvs with
  | true => exact .inl ⟨c, rfl⟩
  | false => exact .inr (.inr (.inr (.inr ⟨c, e1, e2, rfl⟩)))
theorem inV_int {z : Int} : ∀ {l : List Int}, inV (.int z) (l.map V.int) = decide (z ∈ l)
  | [] => by simp [inV]
  | x :: l => by
    have ih := inV_int (z := z) (l := l)
    unfold inV at ih ⊢
    rw [List.map_cons, List.any_cons, ih]
    show ((x == z) || decide (z ∈ l)) = decide (z ∈ x :: l)
    by_cases e : x = z
    · simp [e]
    · have e' : ¬ z = x := fun q => e q.symm
      simp [e, e', List.mem_cons]
theorem flat_ints (l : List Int) : (l.map V.int).all flatV = true := by
  rw [List.all_map]
  exact List.all_eq_true.mpr fun x _ => rfl
theorem DTs.ints {K : PySem.W.Frag} {H : Hp} : ∀ {xs : List V} {ns : List Int}, DTs K H xs (ns.map .int) → xs = ns.map V.int
  | _, [], h => h.em
  | _, n :: r, h => by
    obtain ⟨v, vs, e, k, t⟩ := h.un
    rw [e, k.i, t.ints]
    rfl
def spEdges (K : PySem.W.Frag) (C : Addr) : Sp := fun vs H Q _ => ∃ (p dx : Addr) (v0 v1 v2 v3 v4 : V) (ca ra : Addr) (us xs : List V) (cs : List PyData) (rs : List (List Int)), vs = [.ref p] ∧ H p = some (.ins C dx (unF v0 v1 v2 v3 v4 (.ref ca) (.ref ra))) ∧ SqT K H ca us ∧ DTs K H us cs ∧ (∀ D ∈ cs, InsOk D) ∧ cs.length ≤ 100000 ∧
  SqT K H ra xs ∧ DTs K H xs (rs.map regD) ∧ (∀ r ∈ rs, RegOk cs.length r) ∧ ∀ (u : V) (H' : Hp), DT K H' u (.tuple ((List.range cs.length).map (edgeF cs rs))) → Same H H' → Q u H'
section
variable {P : Program} {w : World} {K : PySem.W.Frag} {mg : Str → Option Value} {base : Heap} {a : Ad}
theorem ok_edges (T : Txt K mg a) : FnOk P w K mg base CX0 3 a.f_edges a.d_edges ["unit"] (spEdges K a.C_Unit) := by
  have G_taken_regions : FnOk P w K mg base CX0 2 _ _ _ _ := ok_taken_regions T
  have G_can_raise : FnOk P w K mg base CX0 1 _ _ _ _ := ok_can_raise T
  have G_followers : FnOk P w K mg base CX0 1 _ _ _ _ := ok_followers T
  refine T.F_edges.ok sc_edges (fun vs H Q E h => ?_) (fun cdv A outer s H vs Q E hr h => ?_)
  · obtain ⟨_, _, _, _, _, _, _, _, _, _, _, _, _, rfl, _⟩ := h; rfl
  · obtain ⟨p, dx, v0, v1, v2, v3, v4, ca, ra, us, xs, cs, rs, rfl, hp, hca, hcs, hins, hn2, hra, hxs, hok, q⟩ := h
    have hz := sizeLine_eq
    have hul := hcs.len
    refine ⟨_, (pss_cons (ps_set (i := 1) sc_edges.nd rfl (Or.inl rfl) (pe_lst pa_nil))
      (pss_cons (ps_for PassesOwn.never rfl (EZ.pi_ez (by rfl) T.b_enumerate (by rfl) T.b_zip (pa_cons (pe_fld (pv 0) rfl) (pa_cons (pe_call G_taken_regions (hr.mono (by decide)) rfl T.g_taken_regions T.k_taken_regions T.bd_taken_regions .nil pass0 (pa_cons (pv 0) pa_nil)) pa_nil))) (pg_tup rfl (pgs_cons (pg_name (i := 2) sc_edges.nd rfl (Or.inl rfl)) (pgs_cons (pg_tup rfl (pgs_cons (pg_name (i := 3) sc_edges.nd rfl (Or.inl rfl)) (pgs_cons (pg_name (i := 4) sc_edges.nd rfl (Or.inl rfl)) pgs_nil))) pgs_nil))) (pss_cons (ps_set (i := 5) sc_edges.nd rfl (Or.inl rfl) (pe_call G_followers (hr.mono (by decide)) rfl T.g_followers T.k_followers T.bd_followers .nil pass0 (pa_cons (pv 3) (pa_cons (pv 2) pa_nil))))
      (pss_cons (ps_if (PW.pt (pw_and (pt_cmpR op_notN (pv 4) pe_non (nomark _)) (pw_and (pt_val (pe_call G_can_raise (hr.mono (by decide)) rfl T.g_can_raise T.k_can_raise T.bd_can_raise .nil pass0 (pa_cons (pv 3) pa_nil))) (pw_and1 (pt_cmpR op_notInS (pe_ix ix_tup (pv 4) pe_int (fun _ _ => rfl)) (pv 5) rfl))))) (pss_one (ps_set (i := 5) sc_edges.nd rfl (Or.inl rfl) (pe_callTy call_tuple_of (by rfl) T.b_tuple (by decide +kernel) (pa_cons (pe_callB cr_sorted (by rfl) T.b_sorted (by decide +kernel) (pa_cons (pe_lst (pa_cons (pe_ix ix_tup (pv 4) pe_int (fun _ _ => rfl)) (StX.pa_star (pv 5) pa_nil))) pa_nil)) pa_nil)))) pss_nil)
      (pss_one (ps_expr (pe_bm PySem.F.plainAttrs_list PySem.F.slot_list_append PySem.F.type_list_append mt_append (pv 1) (pa_cons (pv 5) pa_nil)))))))
      (pss_one (ps_ret (pe_callTy call_tuple_of (by rfl) T.b_tuple (by decide +kernel) (pa_cons (pv 1) pa_nil)))))), ?_⟩
    refine ⟨by decide, fun W nW => ?_⟩
    have s0 := sN (Same.refl H) nW (o := .lst [])
    refine ⟨_, rfl, p, a.C_Unit, dx, _, _, rfl, s0 _ _ hp, T.cl_Unit, T.n_Unit_code, un_cd _ _ _ _ _ _ _, ?_⟩
    refine ⟨_, rfl, p, dx, v0, v1, v2, v3, v4, ca, ra, us, xs, rs, cs.length, rfl, s0 _ _ hp, seqT s0 hca, hul, hn2, seqT s0 hra, hxs.keep (KT.same s0), hok, fun L ts H1 nL hL td s1 => ?_⟩
    have s01 := sTr s0 s1
    refine ⟨ca, L, us, ts, rfl, seqT s01 hca, SqL.of hL, ?_⟩
    have hW1 := s1 _ _ (upd_same (H := H) (a := W) (o := .lst []))
    have hWL : W ≠ L := fun e => by rw [← e] at nL; rw [upd_same] at nL; cases nL
    refine EZ.for_ez (K := K) (a := ca) (b := L) (xs := us) (ys := ts) (by rw [hul, td.1]) (fun i σ H' => ∃ (ws : List V) (o2 o3 o4 o5 : Option V), σ = [some (.ref p), some (.ref W), o2, o3, o4, o5] ∧ H' W = some (.lst ws) ∧ H' L = some (.lst ts) ∧ DTs K H' ws ((List.range i).map (edgeF cs rs)) ∧ Same H H' ∧ KT K H1 H')
      ⟨[], _, _, _, _, rfl, hW1, hL, .nil, s01, fun _ _ h => h⟩ (fun i σ H' _ ⟨_, _, _, _, _, _, _, hL', _, ss, _⟩ => ⟨seqT ss hca, SqL.of hL'⟩) ?_ ?_
    · rintro i x y σ H2 T2 U hx hy ⟨ws, o2, o3, o4, o5, rfl, hW, hL2, hws, ss, kk⟩ nT nU
      obtain ⟨D, eD, dD⟩ := hcs.at hx
      have hi : i < cs.length := (List.getElem?_eq_some_iff.mp eD).1
      obtain ⟨y', ey, dy⟩ := td.2 i hi
      rw [hy] at ey
      obtain rfl := Option.some.inj ey
      have sT := sN (Same.refl H2) nT (o := .tup [x, y])
      have sU := sN sT nU (o := .tup [.int (i : Nat), .ref T2])
      have dD2 := dD.keep (KT.same (sTr ss sU))
      have dy2 : DT K _ y (findR rs (i : Int)) := dy.keep (kk.tr (KT.same sU))
      obtain ⟨nm, ds, rfl, j1, j2⟩ := hins D (List.mem_of_getElem? eD)
      have hW2 := sU _ _ hW
      have hL3 := sU _ _ hL2
      have nTU : T2 ≠ U := ne_of_none upd_same nU
      refine ⟨U, _, rfl, SqT.of upd_same, rfl, _, _, rfl, _, _, rfl, ⟨T2, [x, y], rfl, SqT.of (by rw [upd_ne nTU, upd_same]), rfl, _, _, rfl, _, _, rfl, rfl, rfl, ?_⟩⟩
      refine ⟨_, rfl, _, rfl, x, nm, ds, _, (i : Int), rfl, dD2, fo_ok j1 j2, fun u H5 du s5 => ?_⟩
      have ss5 := sTr (sTr ss sU) s5
      have sA := sTr sU s5
      have hW5 := s5 _ _ hW2
      have hL5 := s5 _ _ hL3
      have hw0 : edgeF cs rs i = .tuple ((canon (wayL (.tuple (.str nm :: ds)) rs (i : Int))).map .int) := by
        unfold edgeF
        rw [List.getD_eq_getElem?_getD, eD]
        rfl
      have fin : ∀ {H6 : Hp} {u6 : V}, Same H5 H6 → DT K H6 u6 (edgeF cs rs i) → DTs K (upd H6 W (.lst (ws ++ [u6]))) (ws ++ [u6]) ((List.range (i + 1)).map (edgeF cs rs)) := fun {H6 u6} s6 d6 => by
        rw [List.range_succ, List.map_append]
        exact ((hws.keep (KT.same (sTr sA s6))).app (.cons d6 .nil)).keep (KT.put (s6 _ _ hW5))
      have kkf : ∀ {H6 : Hp} {u6 : V}, Same H5 H6 → KT K H1 (upd H6 W (.lst (ws ++ [u6]))) := fun {H6 u6} s6 => (kk.tr (KT.same (sTr sA s6))).tr (KT.put (s6 _ _ hW5))
      have noadd : canon (wayL (.tuple (.str nm :: ds)) rs (i : Int)) = canon (folL (.tuple (.str nm :: ds)) (i : Int)) → DT K H5 u (edgeF cs rs i) := fun e => by rw [hw0, e]; exact du
      have hwl : ws.length = i := by rw [hws.len]; simp
      refine ⟨_, rfl, rfl, _, rfl, ite3 (fun c => ?_) (fun c => iteF ?_)⟩
      · have hyn : y ≠ .non := fun e => by rw [e] at c; simp at c
        obtain ⟨r, er, efr⟩ : ∃ r, rs.find? (inR (i : Int)) = some r ∧ findR rs (i : Int) = regD r := by
          unfold findR at dy2 ⊢
          cases e : rs.find? (inR (i : Int)) with
          | none => rw [e] at dy2; cases dy2; exact absurd rfl hyn
          | some r => exact ⟨r, rfl, rfl⟩
        rw [efr] at dy2
        have hr5 := (hok r (List.mem_of_find?_eq_some er)).1
        obtain ⟨pr, zs, rfl, hzs, dzs⟩ := (dy2.keep (KT.same s5)).ts
        obtain ⟨ve, e2, k2⟩ := dzs.it 2 (ints_get (r := r) (i := 2) (by omega))
        cases k2.i
        obtain ⟨pu, bv, rfl, hbv, dbv⟩ := du.ts
        obtain rfl := dbv.ints
        have hent : entL rs (i : Int) = [r.getD 2 0] := by unfold entL; rw [er]
        refine ⟨_, rfl, x, nm, ds, rfl, dD2.keep (KT.same s5), _, rfl, ite3 (fun c2 => ?_) (fun c2 => iteF ?_)⟩
        · refine ⟨_, rfl, _, _, _, _, rfl, rfl, hzs, e2, _, rfl, pu, _, rfl, .inr hbv, rfl, flat_ints _, _, rfl, ?_⟩
          rw [inV_int]
          have hfl : (canon (folL (.tuple (.str nm :: ds)) (i : Int))).length ≤ 2 := by
            exact Nat.le_trans canon_len folL_len
          by_cases c3 : r.getD 2 0 ∈ canon (folL (.tuple (.str nm :: ds)) (i : Int))
          · rw [show (!decide (r.getD 2 0 ∈ canon (folL (.tuple (.str nm :: ds)) (i : Int)))) = false by rw [decide_eq_true c3]; rfl]
            refine iteF ⟨_, rfl, .inl ⟨rfl, _, SqL.of hW5⟩, _, rfl, W, ws, _, rfl, rfl, hW5, by omega, ?_⟩
            refine ⟨_, _, _, _, _, rfl, upd_same, by rw [upd_ne hWL.symm]; exact hL5, fin (Same.refl _) (noadd ?_), sUpd ss5 nW, kkf (Same.refl _)⟩
            refine (canon_uniq canon_sorted fun k => ?_).symm
            rw [mem_canon]
            unfold wayL
            rw [show inV (.str (nmOf (.tuple (.str nm :: ds)))) rss = true from c2, if_pos rfl, hent]
            rw [mem_canon] at c3
            simp only [List.mem_append, List.mem_singleton]
            constructor
            · exact fun h => .inl h
            · rintro (h | h)
              · exact h
              · rw [h]; exact c3
          · rw [show (!decide (r.getD 2 0 ∈ canon (folL (.tuple (.str nm :: ds)) (i : Int)))) = true by rw [decide_eq_false c3]; rfl]
            refine iteT ⟨_, rfl, _, _, _, _, rfl, rfl, hzs, e2, _, rfl, pu, _, rfl, .inl hbv, (by simp; omega), fun l nl => ?_⟩
            refine ⟨l, r.getD 2 0 :: canon (folL (.tuple (.str nm :: ds)) (i : Int)), rfl, SqL.of (by rw [upd_same]; simp), (by simp; omega), fun ns' l2 pm ris nl2 => ⟨l2, ns'.map V.int, rfl, .inl ⟨SqL.of upd_same, fun l3 nl3 => ?_⟩⟩⟩
            have s6 := sN (sN (sN (Same.refl _) nl) nl2) nl3 (o := .tup (ns'.map V.int))
            have hW6 := s6 _ _ hW5
            have hns : ns' = canon (wayL (.tuple (.str nm :: ds)) rs (i : Int)) := by
              refine canon_uniq ?_ fun k => ?_
              · refine lt_of_le_nodup ns' ris (pm.nodup_iff.mpr (List.nodup_cons.mpr ⟨c3, ?_⟩))
                exact canon_sorted.imp fun h => by omega
              · rw [pm.mem_iff, List.mem_cons, mem_canon]
                unfold wayL
                rw [show inV (.str (nmOf (.tuple (.str nm :: ds)))) rss = true from c2, if_pos rfl, hent]
                simp only [List.mem_append, List.mem_singleton]
                constructor
                · rintro (h | h)
                  · exact .inr h
                  · exact .inl h
                · rintro (h | h)
                  · exact .inr h
                  · exact .inl h
            have d6 := lay nl3 (dts_ints (K := K) ns')
            rw [hns, ← hw0] at d6
            rw [← hns] at d6
            refine ⟨_, rfl, .inl ⟨rfl, _, SqL.of hW6⟩, _, rfl, W, ws, _, rfl, rfl, hW6, by omega, ?_⟩
            exact ⟨_, _, _, _, _, rfl, upd_same, by rw [upd_ne hWL.symm]; exact s6 _ _ hL5, fin s6 d6, sUpd (sTr ss5 s6) nW, kkf s6⟩
        · refine ⟨_, rfl, .inl ⟨rfl, _, SqL.of hW5⟩, _, rfl, W, ws, _, rfl, rfl, hW5, by omega, ?_⟩
          refine ⟨_, _, _, _, _, rfl, upd_same, by rw [upd_ne hWL.symm]; exact hL5, fin (Same.refl _) (noadd ?_), sUpd ss5 nW, kkf (Same.refl _)⟩
          unfold wayL
          rw [show inV (.str (nmOf (.tuple (.str nm :: ds)))) rss = false from c2, if_neg (by decide), List.append_nil]
      · refine ⟨_, rfl, .inl ⟨rfl, _, SqL.of hW5⟩, _, rfl, W, ws, _, rfl, rfl, hW5, by omega, ?_⟩
        refine ⟨_, _, _, _, _, rfl, upd_same, by rw [upd_ne hWL.symm]; exact hL5, fin (Same.refl _) (noadd ?_), sUpd ss5 nW, kkf (Same.refl _)⟩
        have hyn : y = .non := by
          by_cases e : y = .non
          · exact e
          · rw [decide_eq_false e] at c; cases c
        have hno : entL rs (i : Int) = [] := by
          unfold findR at dy2
          unfold entL
          cases e : rs.find? (inR (i : Int)) with
          | none => rfl
          | some r => rw [e, hyn] at dy2; cases dy2
        unfold wayL
        rw [hno]
        simp
    · rintro σ H2 ⟨ws, o2, o3, o4, o5, rfl, hW, hL2, hws, ss, kk⟩
      rw [hul] at hws
      exact ⟨_, rfl, W, ws, rfl, .inl ⟨SqL.of hW, fun pw npw => q _ _ (lay npw hws) (sN ss npw)⟩⟩
end

/-! ### sameness -/
def okD : Nat → PyData → Prop
  | _, .none => True
  | _, .bool _ => True
  | _, .int _ => True
  | _, .str _ => True
  | n + 1, .tuple ds => (∀ d ∈ ds, okD n d) ∧ ds.length ≤ 1000000
  | _, _ => False
def spSame (K : PySem.W.Frag) (n : Nat) : Sp := fun vs H Q _ => ∃ (x y : V) (d : PyData), vs = [x, y] ∧ DT K H x d ∧ DT K H y d ∧ okD n d ∧ ∀ H', Same H H' → Q (.bl true) H'
theorem kb (a b : String) (r : Bool) (h : kitB a b = some r := by decide +kernel) {K : PySem.W.Frag} : PySem.W.kitOne K (.type a) (.type b) = some r := kit_ty h
section
variable {P : Program} {w : World} {K : PySem.W.Frag} {mg : Str → Option Value} {base : Heap} {a : Ad}
theorem ok_same_aux (T : Txt K mg a) (n k : Nat) (sp' : Sp) (G_law_same : FnOk P w K mg base CX0 k a.f_law_same a.d_law_same ["actual", "due"] sp') (hG : ∀ m, n = m + 1 → ∀ vs H Q E, spSame K m vs H Q E → sp' vs H Q E) :
    FnOk P w K mg base CX0 (k + 1) a.f_law_same a.d_law_same ["actual", "due"] (spSame K n) := by
  refine T.F__law_same.ok sc_law_same (fun vs H Q E h => ?_) (fun cdv A outer s H vs Q E hr h => ?_)
  · obtain ⟨_, _, _, rfl, _⟩ := h; rfl
  · obtain ⟨x, y, d, rfl, hx, hy, ho, q⟩ := h
    refine ⟨_, (pss_cons (ps_if (pt_val (pe_callB call_isi (by rfl) T.b_isinstance (by decide +kernel) (pa_cons (pv 1) (pa_cons (pe_bltn (v := .ty "tuple") (by rfl) T.b_tuple (by decide +kernel) rfl) pa_nil)))) (pss_cons (ps_if (PW.pt (pw_or (pt_not (pt_val (pe_callB call_isi (by rfl) T.b_isinstance (by decide +kernel) (pa_cons (pv 0) (pa_cons (pe_bltn (v := .ty "tuple") (by rfl) T.b_tuple (by decide +kernel) rfl) pa_nil))))) (pw_or1 (pt_cmpR op_ne (pe_callB call_len_seq (by rfl) T.b_len (by decide +kernel) (pa_cons (pv 0) pa_nil)) (pe_callB call_len_seq (by rfl) T.b_len (by decide +kernel) (pa_cons (pv 1) pa_nil)) (nomark _))))) (pss_one (ps_ret pe_bl)) pss_nil)
      (pss_one (ps_ret (pe_callB (cr_all rfl) (by rfl) T.b_all (by decide +kernel) (pa_cons (pe_lc (own := [("k", 2)]) (g := gName 2) rfl sc_law_same.nd (pi_range1 rfl T.b_range (pa_cons (pe_callB call_len_seq (by rfl) T.b_len (by decide +kernel) (pa_cons (pv 1) pa_nil)) pa_nil)) (blkOk_by (own := [("k", 2)]) (N := ["actual", "due", "k"]) (sc := defScope s_law_same) (by decide +kernel)) (fun _ _ _ _ _ => pg_name (i := 2) sc_law_same.nd rfl (Or.inl rfl)) (fun _ _ _ _ _ => pts_nil) (fun _ _ _ _ _ => (pe_call G_law_same hr rfl T.g__law_same T.k__law_same T.bd__law_same .nil pass0 (pa_cons (pe_ix (ix_tupK (K := K) rfl) (pv 0) (pv 2) (fun _ _ => rfl)) (pa_cons (pe_ix (ix_tupK (K := K) rfl) (pv 1) (pv 2) (fun _ _ => rfl)) pa_nil))))) pa_nil))))) pss_nil)
      (pss_cons (ps_if (pt_cmpR op_isN (pv 1) pe_non (nomark _)) (pss_one (ps_ret (pe_cmpR op_isN (pv 0) pe_non (nomark _)))) pss_nil)
      (pss_cons (ps_if (pt_val (pe_callB call_isi (by rfl) T.b_isinstance (by decide +kernel) (pa_cons (pv 1) (pa_cons (pe_bltn (v := .ty "bool") (by rfl) T.b_bool (by decide +kernel) rfl) pa_nil)))) (pss_one (ps_ret (pe_and (pe_callB call_isi (by rfl) T.b_isinstance (by decide +kernel) (pa_cons (pv 0) (pa_cons (pe_bltn (v := .ty "bool") (by rfl) T.b_bool (by decide +kernel) rfl) pa_nil))) (pe_one (pe_cmpR op_eq (pv 0) (pv 1) (nomark _)))))) pss_nil)
      (pss_cons (ps_if (pt_val (pe_callB call_isi (by rfl) T.b_isinstance (by decide +kernel) (pa_cons (pv 1) (pa_cons (pe_bltn (v := .ty "str") (by rfl) T.b_str (by decide +kernel) rfl) pa_nil)))) (pss_one (ps_ret (pe_and (pe_callB call_isi (by rfl) T.b_isinstance (by decide +kernel) (pa_cons (pv 0) (pa_cons (pe_bltn (v := .ty "str") (by rfl) T.b_str (by decide +kernel) rfl) pa_nil))) (pe_one (pe_cmpR op_eq (pv 0) (pv 1) (nomark _)))))) pss_nil)
      (pss_one (ps_ret (pe_and (pe_callB call_isi (by rfl) T.b_isinstance (by decide +kernel) (pa_cons (pv 0) (pa_cons (pe_bltn (v := .ty "int") (by rfl) T.b_int (by decide +kernel) rfl) pa_nil))) (pe_and (pe_not (pe_callB call_isi (by rfl) T.b_isinstance (by decide +kernel) (pa_cons (pv 0) (pa_cons (pe_bltn (v := .ty "bool") (by rfl) T.b_bool (by decide +kernel) rfl) pa_nil)))) (pe_one (pe_cmpR op_eq (pv 0) (pv 1) (nomark _))))))))))), ?_⟩
    have s0 := Same.refl H
    cases d with
    | none =>
      cases hx; cases hy
      refine ⟨_, rfl, _, _, _, _, _, rfl, .ty _, .base .non, kb "NoneType" "tuple" false, _, rfl, iteF ?_⟩
      refine ⟨_, rfl, rfl, _, rfl, iteT ?_⟩
      exact ⟨_, rfl, rfl, q _ s0⟩
    | bool i =>
      cases hx; cases hy
      refine ⟨_, rfl, _, _, _, _, _, rfl, .ty _, .base (.bl _), kb "bool" "tuple" false, _, rfl, iteF ?_⟩
      refine ⟨_, rfl, rfl, _, rfl, iteF ?_⟩
      refine ⟨_, rfl, _, _, _, _, _, rfl, .ty _, .base (.bl _), kb "bool" "bool" true, _, rfl, iteT ?_⟩
      refine ⟨_, rfl, _, _, _, _, _, rfl, .ty _, .base (.bl _), kb "bool" "bool" true, _, rfl, iteT ?_⟩
      refine ⟨_, rfl, _, rfl, rfl, ?_⟩
      rw [show decide (V.bl i = V.bl i) = true by simp]
      exact q _ s0
    | int i =>
      cases hx; cases hy
      refine ⟨_, rfl, _, _, _, _, _, rfl, .ty _, .base (.int _), kb "int" "tuple" false, _, rfl, iteF ?_⟩
      refine ⟨_, rfl, rfl, _, rfl, iteF ?_⟩
      refine ⟨_, rfl, _, _, _, _, _, rfl, .ty _, .base (.int _), kb "int" "bool" false, _, rfl, iteF ?_⟩
      refine ⟨_, rfl, _, _, _, _, _, rfl, .ty _, .base (.int _), kb "int" "str" false, _, rfl, iteF ?_⟩
      refine ⟨_, rfl, _, _, _, _, _, rfl, .ty _, .base (.int _), kb "int" "int" true, _, rfl, iteT ?_⟩
      refine ⟨_, rfl, _, _, _, _, _, rfl, .ty _, .base (.int _), kb "int" "bool" false, _, rfl, _, rfl, iteT ?_⟩
      refine ⟨_, rfl, _, rfl, rfl, ?_⟩
      rw [show decide (V.int i = V.int i) = true by simp]
      exact q _ s0
    | str z =>
      cases hx; cases hy
      refine ⟨_, rfl, _, _, _, _, _, rfl, .ty _, .base (.str _), kb "str" "tuple" false, _, rfl, iteF ?_⟩
      refine ⟨_, rfl, rfl, _, rfl, iteF ?_⟩
      refine ⟨_, rfl, _, _, _, _, _, rfl, .ty _, .base (.str _), kb "str" "bool" false, _, rfl, iteF ?_⟩
      refine ⟨_, rfl, _, _, _, _, _, rfl, .ty _, .base (.str _), kb "str" "str" true, _, rfl, iteT ?_⟩
      refine ⟨_, rfl, _, _, _, _, _, rfl, .ty _, .base (.str _), kb "str" "str" true, _, rfl, iteT ?_⟩
      refine ⟨_, rfl, _, rfl, rfl, ?_⟩
      rw [show decide (V.str z = V.str z) = true by simp]
      exact q _ s0
    | tuple ds =>
      cases n with
      | zero => exact ho.elim
      | succ m =>
        obtain ⟨ho, hz⟩ := ho
        obtain ⟨pa, xs, rfl, hxs, dx⟩ := hx.ts
        obtain ⟨pb, ys, rfl, hys, dy⟩ := hy.ts
        have lx := dx.len
        have ly := dy.len
        refine ⟨_, rfl, _, _, _, _, _, rfl, .ty _, tyx_tup hys, kb "tuple" "tuple" true, _, rfl, iteT ?_⟩
        refine ⟨_, rfl, _, _, _, _, _, rfl, .ty _, tyx_tup hxs, kb "tuple" "tuple" true, _, rfl, iteF ?_⟩
        refine ⟨_, rfl, _, _, rfl, .inr hxs, _, rfl, _, _, rfl, .inr hys, rfl, _, rfl, ?_⟩
        rw [show (!decide (V.int (xs.length : Int) = V.int (ys.length : Int))) = false by rw [lx, ly]; simp]
        refine iteF ?_
        refine ⟨_, rfl, _, _, rfl, .inr hys, _, rfl, by omega, by omega, fun D nD => ?_⟩
        refine lc_range (lo := 0) (n := (ys.length : Int).toNat) (fun i H' => Same H H' ∧ H' D = some (.lst ((List.replicate i true).map V.bl))) ⟨sN s0 nD, upd_same⟩ ?_ ?_
        · rintro i H' hi ⟨ss, hD⟩
          have hi' : i < ds.length := by omega
          obtain ⟨v1, e1, d1⟩ := dx.get (i := i) (d := ds[i]) (by simp [hi'])
          obtain ⟨v2, e2, d2⟩ := dy.get (i := i) (d := ds[i]) (by simp [hi'])
          have e0 : (0 : Int) + (i : Int) = (i : Int) := Int.zero_add _
          rw [e0]
          refine ⟨rfl, ?_⟩
          refine ⟨_, rfl, _, rfl, _, _, _, _, rfl, rfl, seqT ss hxs, atI_nat e1, _, rfl, _, rfl, _, _, _, _, rfl, rfl, seqT ss hys, atI_nat e2, ?_⟩
          refine hG m rfl _ _ _ _ ⟨v1, v2, ds[i], rfl, d1.keep (KT.same ss), d2.keep (KT.same ss), ho _ (List.getElem_mem hi'), fun H2 s2 => ?_⟩
          refine ⟨_, s2 _ _ hD, (by have := sizeLine_eq; simp; omega), sUpd (sTr ss s2) nD, ?_⟩
          rw [upd_same, List.replicate_succ', List.map_append]
          rfl
        · rintro H' ⟨ss, hD⟩
          refine ⟨D, List.replicate _ true, rfl, SqL.of hD, ?_⟩
          have e : (List.replicate (ys.length : Int).toNat true).all id = true := by simp
          rw [e]
          exact q _ ss
    | list ds => exact (by cases n <;> exact ho.elim)
    | _ => exact (by cases n <;> exact ho.elim)
theorem ok_same (T : Txt K mg a) : ∀ n, FnOk P w K mg base CX0 (n + 1) a.f_law_same a.d_law_same ["actual", "due"] (spSame K n)
  | 0 => ok_same_aux T 0 0 spNever ⟨fun _ _ _ _ h => h.elim, fun _ _ _ _ _ _ _ _ _ _ _ _ _ h => h.elim⟩ fun _ h => nomatch h
  | n + 1 => ok_same_aux T (n + 1) (n + 1) (spSame K n) (ok_same T n) fun m h vs H Q E q => by
    obtain rfl : n = m := Nat.succ.inj h
    exact q
end

/-! ### the draws -/
structure StD (H : Hp) (st ca : Addr) (ns : List Int) : Prop where
  at' : ∃ i d n t b c : Int, 0 ≤ i ∧ H st = some (.lst [.ref ca, .int i, .int d, .int n, .int t, .int b, .int c])
  ca' : H ca = some (.lst (ns.map V.int))
theorem StD.same {H H' : Hp} {st ca : Addr} {ns : List Int} (h : StD H st ca ns) (f : Same H H') : StD H' st ca ns := by
  obtain ⟨i, d, n, t, b, c, z, e⟩ := h.at'
  exact ⟨⟨i, d, n, t, b, c, z, f _ _ e⟩, f _ _ h.ca'⟩
theorem StD.new {H : Hp} {st ca p : Addr} {ns : List Int} {o : HO} (h : StD H st ca ns) (np : H p = none) : StD (upd H p o) st ca ns := h.same (sN (Same.refl H) np)
/-- all but the state stays -/
def Frs (st : Addr) (H H' : Hp) : Prop := ∀ b o, H b = some o → b ≠ st → H' b = some o
theorem Frs.refl {st : Addr} {H : Hp} : Frs st H H := fun _ _ e _ => e
theorem Frs.tr {st : Addr} {H H1 H2 : Hp} (x : Frs st H H1) (y : Frs st H1 H2) : Frs st H H2 := fun b o e n => y b o (x b o e n) n
theorem Frs.put {st : Addr} {H H1 : Hp} {o : HO} (x : Frs st H H1) : Frs st H (upd H1 st o) := fun b u e n => by rw [upd_ne n]; exact x b u e n
theorem Frs.of {st : Addr} {H H1 : Hp} (x : Same H H1) : Frs st H H1 := fun b u e _ => x b u e
theorem Frs.same {st : Addr} {H0 H H1 : Hp} (s : Same H0 H) (x : Frs st H H1) (n1 : H0 st = none) : Same H0 H1 := fun b o e => x b o (s b o e) (ne_of_none e n1)
def spMix : Sp := fun vs H Q _ => ∃ (n c : Int), vs = [.int n, .int c] ∧ ∀ v : Int, Q (.int v) H
def spState (K : PySem.W.Frag) : Sp := fun vs H Q _ => ∃ (sa : Addr) (ns : List Int) (b : Int), vs = [.ref sa, .int b] ∧ SqL K H sa (ns.map V.int) ∧ ns.length ≤ 63 ∧ ∀ (st ca : Addr) (H' : Hp) (t b : Int), H st = none → H ca = none → H' ca = some (.lst (ns.map V.int)) → H' st = some (.lst [.ref ca, .int 0, .int 0, .int 0, .int t, .int b]) → Same H H' → Q (.ref st) H'
def spDraw : Sp := fun vs H Q _ => ∃ (st ca : Addr) (ns : List Int) (m : Int), vs = [.ref st, .int m] ∧ StD H st ca ns ∧ 0 < m ∧ m < 2 ^ 62 ∧ ∀ (v : Int) (H' : Hp), 0 ≤ v → v < m → StD H' st ca ns → Frs st H H' → Q (.int v) H'
section
variable {P : Program} {w : World} {K : PySem.W.Frag} {mg : Str → Option Value} {base : Heap} {a : Ad}
theorem ok_law_mixed (T : Txt K mg a) : FnOk P w K mg base CX0 1 a.f_law_mixed a.d_law_mixed ["number", "count"] spMix := by
  refine T.F__law_mixed.ok sc_law_mixed (fun vs H Q E h => ?_) (fun cdv A outer s H vs Q E hr h => ?_)
  · obtain ⟨_, _, rfl, _⟩ := h; rfl
  · obtain ⟨n, c, rfl, q⟩ := h
    refine ⟨_, (pss_cons (ps_set (i := 2) sc_law_mixed.nd rfl (Or.inl rfl) (pe_op op_mod (pe_callTy call_int1 (by rfl) T.b_int (by decide +kernel) (pa_cons (pe_op op_add (pe_op op_add (pe_op op_mul (pv 0) pe_int) (pe_op op_mul (pv 1) pe_int)) pe_int) pa_nil)) pe_int))
      (pss_cons (ps_set (i := 3) sc_law_mixed.nd rfl (Or.inl rfl) (pe_op op_mod (pe_callTy call_int1 (by rfl) T.b_int (by decide +kernel) (pa_cons (pe_op op_add (pe_op op_add (pe_op op_mul (pv 2) (pv 2)) (pv 0)) (pe_op op_mul (pv 1) pe_int)) pa_nil)) pe_int))
      (pss_one (ps_ret (pe_op op_add (pv 3) (pe_op op_fdivW (pv 2) pe_int)))))), ?_⟩
    have hdv : ∀ i, CDivW i 64 := fun i => wide_div (b := 62) (by decide) (by decide) (by decide) (by decide)
    refine ⟨_, rfl, _, _, rfl, rfl, .inr (by decide), _, rfl, _, _, rfl, rfl, .inr (by decide), _, _, rfl, rfl, _, _, rfl, rfl, .inl ⟨_, rfl, _, _, rfl, rfl, (by show (0 : Int) < 2147483647; decide), ?_⟩⟩
    have h0 := Int.emod_nonneg (n * 48271 + c * 69621 + 7) (b := 2147483647) (by decide)
    have h1 := Int.emod_lt_of_pos (n * 48271 + c * 69621 + 7) (b := 2147483647) (by decide)
    refine ⟨_, rfl, _, rfl, _, _, rfl, rfl, .inr ⟨by omega, by omega⟩, _, rfl, _, _, rfl, rfl, _, rfl, _, _, rfl, rfl, .inr (by decide), _, _, rfl, rfl, .inl ⟨_, rfl, _, _, rfl, rfl, (by show (0 : Int) < 2147483399; decide), ?_⟩⟩
    exact ⟨_, rfl, _, rfl, _, _, rfl, rfl, hdv _, _, _, rfl, rfl, q _⟩
theorem ok_law_state (T : Txt K mg a) : FnOk P w K mg base CX0 1 a.f_law_state a.d_law_state ["script", "budget"] (spState K) := by
  refine T.F__law_state.ok sc_law_state (fun vs H Q E h => ?_) (fun cdv A outer s H vs Q E hr h => ?_)
  · obtain ⟨_, _, _, rfl, _⟩ := h; rfl
  · obtain ⟨sa, ns, b, rfl, hs, hl, q⟩ := h
    refine ⟨_, (pss_one (ps_ret (pe_lst (pa_cons (pe_callTy call_list_of (by rfl) T.b_list (by decide +kernel) (pa_cons (pv 0) pa_nil)) (pa_cons pe_int (pa_cons pe_int (pa_cons pe_int (pa_cons (pe_op op_add (pe_op op_mod (pe_callTy call_int1 (by rfl) T.b_int (by decide +kernel) (pa_cons (pe_callB (cr_sum rfl) (by rfl) T.b_sum (by decide +kernel) (pa_cons (pv 0) pa_nil)) pa_nil)) (pe_op op_pow pe_int pe_int)) (pe_callB call_len_seq (by rfl) T.b_len (by decide +kernel) (pa_cons (pv 0) pa_nil))) (pa_cons (pv 1) pa_nil))))))))), ?_⟩
    refine ⟨_, rfl, sa, _, rfl, .inl hs, fun ca nca => ?_⟩
    have s1 := sN (Same.refl H) nca (o := .lst (ns.map V.int))
    refine ⟨_, rfl, sa, ns, rfl, Same.seq s1 hs, .inl ⟨_, rfl, _, _, rfl, rfl, ⟨by decide, by decide, by decide⟩, _, _, rfl, rfl, (by show (0 : Int) < 10 ^ 15; decide), _, rfl, _, _, rfl, .inl (Same.seq s1 hs), _, _, rfl, rfl, _, rfl, (by show 6 ≤ sizeLine; decide), fun st nst => ?_⟩⟩
    have ncs : ca ≠ st := ne_of_none upd_same nst
    have ns0 : H st = none := by rw [upd_ne ncs.symm] at nst; exact nst
    exact q st ca _ _ _ ns0 nca (by rw [upd_ne ncs]; exact upd_same) upd_same (sN s1 nst)
theorem ok_law_draw (T : Txt K mg a) : FnOk P w K mg base CX0 3 a.f_law_draw a.d_law_draw ["state", "many"] spDraw := by
  have G_law_mixed : FnOk P w K mg base CX0 1 _ _ _ _ := ok_law_mixed T
  refine T.F__law_draw.ok sc_law_draw (fun vs H Q E h => ?_) (fun cdv A outer s H vs Q E hr h => ?_)
  · obtain ⟨_, _, _, _, rfl, _⟩ := h; rfl
  · obtain ⟨st, ca, ns, m, rfl, S, hm, hm2, q⟩ := h
    have hdv : ∀ i, CDivW i m := fun i => wide_div (b := 62) hm (by omega) (by decide) (by decide)
    obtain ⟨i, d, n, t, b, c, i0, h1⟩ := S.at'
    have h2 := S.ca'
    have nsc : st ≠ ca := ne_of h1 h2 fun e => by
      injection e with e
      cases ns with
      | nil => exact nomatch e
      | cons x r => injection e with e _; exact nomatch e
    refine ⟨_, (pss_cons (ps_set (i := 2) sc_law_draw.nd rfl (Or.inl rfl) (pe_ix ix_list (pv 0) pe_int (fun _ _ => rfl)))
      (pss_cons (ps_asg (pe_op op_add (pe_ix ix_list (pv 0) pe_int (fun _ _ => rfl)) pe_int) (pg_sub (pv 0) pe_int set_list))
      (C8.pss_cut (ps_if (PW.pt (pw_and (pt_cmpR op_eq (pe_ix ix_list (pv 0) pe_int (fun _ _ => rfl)) pe_int (nomark _)) (pw_and1 (pt_cmpR op_lt (pe_ix ix_list (pv 0) pe_int (fun _ _ => rfl)) (pe_callB call_len_seq (by rfl) T.b_len (by decide +kernel) (pa_cons (pv 2) pa_nil)) (nomark _))))) (pss_cons (ps_asg (pe_op op_add (pe_ix ix_list (pv 0) pe_int (fun _ _ => rfl)) pe_int) (pg_sub (pv 0) pe_int set_list))
      (pss_cons (ps_set (i := 3) sc_law_draw.nd rfl (Or.inl rfl) (pe_callB call_abs (by rfl) T.b_abs (by decide +kernel) (pa_cons (pe_ix ix_list (pv 2) (pe_op op_sub (pe_ix ix_list (pv 0) pe_int (fun _ _ => rfl)) pe_int) (fun _ _ => rfl)) pa_nil)))
      (pss_cons (ps_if (pt_cmpR op_lt (pv 3) (pe_op op_pow pe_int pe_int) (nomark _)) (pss_one (ps_ret (pe_op op_mod (pe_callTy call_int1 (by rfl) T.b_int (by decide +kernel) (pa_cons (pe_call G_law_mixed (hr.mono (by decide)) rfl T.g__law_mixed T.k__law_mixed T.bd__law_mixed .nil pass0 (pa_cons (pv 3) (pa_cons (pe_ix ix_list (pv 0) pe_int (fun _ _ => rfl)) pa_nil))) pa_nil)) (pv 1)))) pss_nil)
      (pss_one (ps_asg (pv 3) (pg_sub (pv 0) pe_int set_list)))))) pss_nil)
      (pss_cons (ps_if (pt_cmpR op_eq (pe_ix ix_list (pv 0) pe_int (fun _ _ => rfl)) pe_int (nomark _)) (pss_one (ps_ret (pe_op op_mod (pe_callTy call_int1 (by rfl) T.b_int (by decide +kernel) (pa_cons (pe_call G_law_mixed (hr.mono (by decide)) rfl T.g__law_mixed T.k__law_mixed T.bd__law_mixed .nil pass0 (pa_cons (pe_ix ix_list (pv 0) pe_int (fun _ _ => rfl)) (pa_cons (pe_ix ix_list (pv 0) pe_int (fun _ _ => rfl)) pa_nil))) pa_nil)) (pv 1)))) pss_nil)
      (pss_cons (ps_set (i := 4) sc_law_draw.nd rfl (Or.inl rfl) (pe_op op_mod (pe_callTy call_int1 (by rfl) T.b_int (by decide +kernel) (pa_cons (pe_ix ix_list (pv 0) pe_int (fun _ _ => rfl)) pa_nil)) (pv 1)))
      (pss_cons (ps_asg (pe_op op_fdivW (pe_callTy call_int1 (by rfl) T.b_int (by decide +kernel) (pa_cons (pe_ix ix_list (pv 0) pe_int (fun _ _ => rfl)) pa_nil)) (pv 1)) (pg_sub (pv 0) pe_int set_list))
      (pss_one (ps_ret (pv 4))))))))), ?_⟩
    refine ⟨_, rfl, _, _, _, _, rfl, rfl, SqL.of h1, rfl, ?_⟩
    refine ⟨_, rfl, _, _, _, _, rfl, rfl, SqL.of h1, rfl, _, _, rfl, rfl, _, rfl, _, _, _, _, rfl, rfl, h1, rfl, ?_⟩
    have k2 : ∀ {H2 : Hp} {o : HO}, H2 ca = some (.lst (ns.map V.int)) → upd H2 st o ca = some (.lst (ns.map V.int)) := fun e => by rw [upd_ne nsc.symm]; exact e
    refine ⟨fun σ H2 => ∃ (i d n t b c : Int) (o : Option V), 0 ≤ i ∧ σ = [some (.ref st), some (.int m), some (.ref ca), o, none] ∧ H2 st = some (.lst [.ref ca, .int i, .int d, .int n, .int t, .int b, .int c]) ∧ H2 ca = some (.lst (ns.map V.int)) ∧ Frs st H H2, ?_, ?_⟩
    · have e1 : upd H st (.lst [.ref ca, .int i, .int d, .int (n + 1), .int t, .int b, .int c]) st = some (.lst [.ref ca, .int i, .int d, .int (n + 1), .int t, .int b, .int c]) := upd_same
      have e2 := k2 (o := .lst [.ref ca, .int i, .int d, .int (n + 1), .int t, .int b, .int c]) h2
      refine ⟨_, rfl, _, _, _, _, rfl, rfl, SqL.of e1, rfl, rfl, _, rfl, ite3 (fun c1 => ?_) (fun c1 => ?_)⟩
      · refine ⟨_, rfl, _, _, _, _, rfl, rfl, SqL.of e1, rfl, _, rfl, _, _, rfl, .inl (SqL.of e2), _, _, rfl, rfl, _, rfl, ite3 (fun c2 => ?_) (fun c2 => ?_)⟩
        · have hlt : i.toNat < ns.length := by
            have := of_decide_eq_true c2
            simp at this
            omega
          have hat : atI (ns.map V.int) (i + 1 - 1) = some (.int ns[i.toNat]) := by
            have hh := atI_nat (j := i.toNat) (xs := ns.map V.int) (v := V.int ns[i.toNat]) (by simp [hlt])
            rwa [show ((i.toNat : Nat) : Int) = i + 1 - 1 by omega] at hh
          refine ⟨_, rfl, _, _, _, _, rfl, rfl, SqL.of e1, rfl, _, _, rfl, rfl, _, rfl, _, _, _, _, rfl, rfl, e1, rfl, ?_⟩
          have e3 := k2 (o := .lst [.ref ca, .int (i + 1), .int d, .int (n + 1), .int t, .int b, .int c]) e2
          refine ⟨_, rfl, _, rfl, _, _, _, _, rfl, rfl, SqL.of upd_same, rfl, _, _, rfl, rfl, _, _, _, _, rfl, rfl, SqL.of e3, hat, _, rfl, ?_⟩
          refine ⟨_, rfl, _, _, rfl, rfl, ⟨by decide, by decide, by decide⟩, _, _, rfl, rfl, _, rfl, ite3 (fun c3 => ?_) (fun c3 => ?_)⟩
          · refine ⟨_, rfl, _, rfl, _, _, _, _, rfl, rfl, SqL.of upd_same, rfl, _, _, rfl, fun v => .inl ⟨_, rfl, _, rfl, _, _, rfl, rfl, hm, ?_⟩⟩
            exact q _ _ (Int.emod_nonneg _ (by omega)) (Int.emod_lt_of_pos _ hm) ⟨⟨_, _, _, _, _, _, by omega, upd_same⟩, e3⟩ Frs.refl.put.put
          · refine ⟨_, rfl, _, rfl, _, _, _, _, rfl, rfl, upd_same, rfl, ?_⟩
            exact ⟨i + 1, _, _, _, _, _, _, by omega, rfl, upd_same, k2 e3, Frs.refl.put.put.put⟩
        · exact ⟨_, _, _, _, _, _, _, i0, rfl, upd_same, e2, Frs.refl.put⟩
      · exact iteF ⟨_, _, _, _, _, _, _, i0, rfl, upd_same, e2, Frs.refl.put⟩
    · clear h1 h2 i0
      rintro σ H2 ⟨i, d, n, t, b, c, o, i0, rfl, h1, h2, f⟩
      refine ⟨_, rfl, _, _, _, _, rfl, rfl, SqL.of h1, rfl, rfl, _, rfl, ite3 (fun c1 => ?_) (fun c1 => ?_)⟩
      · refine ⟨_, rfl, _, _, _, _, rfl, rfl, SqL.of h1, rfl, _, rfl, _, _, _, _, rfl, rfl, SqL.of h1, rfl, _, _, rfl, fun v => .inl ⟨_, rfl, _, rfl, _, _, rfl, rfl, hm, ?_⟩⟩
        exact q _ _ (Int.emod_nonneg _ (by omega)) (Int.emod_lt_of_pos _ hm) ⟨⟨_, _, _, _, _, _, i0, h1⟩, h2⟩ f
      · refine ⟨_, rfl, _, _, _, _, rfl, rfl, SqL.of h1, rfl, .inl ⟨_, rfl, _, rfl, _, _, rfl, rfl, hm, ?_⟩⟩
        refine ⟨_, rfl, _, _, _, _, rfl, rfl, SqL.of h1, rfl, .inl ⟨_, rfl, _, rfl, _, _, rfl, rfl, hdv _, _, rfl, _, _, _, _, rfl, rfl, h1, rfl, ?_⟩⟩
        exact ⟨_, rfl, q _ _ (Int.emod_nonneg _ (by omega)) (Int.emod_lt_of_pos _ hm) ⟨⟨_, _, _, _, _, _, i0, upd_same⟩, k2 h2⟩ f.put⟩
end
section
variable {K : PySem.W.Frag} {H H' : Hp}
theorem StD.ne {st ca p : Addr} {ns : List Int} (S : StD H st ca ns) (n : H p = none) : p ≠ st := fun e => by
  obtain ⟨_, _, _, _, _, _, _, e1⟩ := S.at'
  rw [e, e1] at n; cases n
theorem StD.neC {st ca p : Addr} {ns : List Int} (S : StD H st ca ns) (n : H p = none) : p ≠ ca := fun e => by
  rw [e, S.ca'] at n; cases n
theorem StD.upd {st ca p : Addr} {ns : List Int} {o : HO} (S : StD H st ca ns) (n1 : p ≠ st) (n2 : p ≠ ca) : StD (L2.upd H p o) st ca ns := by
  obtain ⟨i, d, n, t, b, c, z, e⟩ := S.at'
  exact ⟨⟨i, d, n, t, b, c, z, by rw [upd_ne n1.symm]; exact e⟩, by rw [upd_ne n2.symm]; exact S.ca'⟩
theorem StD.kt {st ca : Addr} {ns : List Int} (S : StD H st ca ns) (f : Frs st H H') : KT K H H' := fun b ys h => by
  obtain ⟨_, _, _, _, _, _, _, e⟩ := S.at'
  rcases h with (h | ⟨u, h⟩) | h
  · exact .inl (.inl (f _ _ h (ne_of h e fun z => nomatch z)))
  · exact .inl (.inr ⟨u, f _ _ h (ne_of h e fun z => nomatch z)⟩)
  · exact .inr h
theorem Frs.new {st p : Addr} {H0 : Hp} {o : HO} (f : Frs st H0 H) (n : H p = none) : Frs st H0 (L2.upd H p o) := fun b u e m => by
  rw [upd_ne (ne_of_none (f b u e m) n)]; exact f b u e m
/-- a list that is new since H0 is written -/
theorem Frs.upN {st p : Addr} {H0 : Hp} {o : HO} (f : Frs st H0 H) (n : H0 p = none) : Frs st H0 (L2.upd H p o) := fun b u e m => by
  rw [upd_ne (ne_of_none e n)]; exact f b u e m
end

/-! ### words, operands, straight code -/
/-- no way of its own -/
def InsNo (D : PyData) : Prop := ∃ nm ds, D = .tuple (.str nm :: ds) ∧ nm ≠ "jump" ∧ nm ≠ "branch"
theorem InsNo.ok {D : PyData} (h : InsNo D) : InsOk D := by
  obtain ⟨nm, ds, rfl, h1, h2⟩ := h
  exact ⟨nm, ds, rfl, fun e => absurd e h1, fun e => absurd e h2⟩
theorem insS {nm : Str} {ds : List PyData} (h : nm ≠ "jump" ∧ nm ≠ "branch") : InsNo (.tuple (.str nm :: ds)) := ⟨nm, ds, rfl, h.1, h.2⟩
/-- the way of a jump or branch at index i, which counts from there, lies from lo to hi -/
def InsW (lo hi : Int) (i : Nat) (D : PyData) : Prop := ∀ nm ds, D = .tuple (.str nm :: ds) → (nm = "jump" → ∃ t, ds[0]? = some (.int t) ∧ lo ≤ (i : Int) + t ∧ (i : Int) + t ≤ hi) ∧ (nm = "branch" → ∃ t, ds[1]? = some (.int t) ∧ lo ≤ (i : Int) + t ∧ (i : Int) + t ≤ hi)
theorem InsNo.w {D : PyData} (h : InsNo D) {lo hi : Int} {i : Nat} : InsW lo hi i D := by
  obtain ⟨nm, ds, rfl, h1, h2⟩ := h
  intro nm' ds' e
  injection e with e
  injection e with e1 e2
  injection e1 with e1
  subst e1
  exact ⟨fun e => absurd e h1, fun e => absurd e h2⟩
/-- all ways of a piece: from -lo to its length and hi -/
structure PW (lo hi : Int) (cs : List PyData) (rs : List (List Int)) : Prop where
  c : ∀ (i : Nat) D, cs[i]? = some D → InsW (-lo) ((cs.length : Int) + hi) i D
  e : ∀ r ∈ rs, 0 ≤ r.getD 2 0 ∧ r.getD 2 0 ≤ (cs.length : Int) + hi
theorem InsW.mono {lo hi lo' hi' : Int} {i : Nat} {D : PyData} (h : InsW lo hi i D) (l : lo' ≤ lo) (u : hi ≤ hi') : InsW lo' hi' i D := fun nm ds e => by
  obtain ⟨a, b⟩ := h nm ds e
  refine ⟨fun z => ?_, fun z => ?_⟩
  · obtain ⟨t, x, y, w⟩ := a z
    exact ⟨t, x, by omega, by omega⟩
  · obtain ⟨t, x, y, w⟩ := b z
    exact ⟨t, x, by omega, by omega⟩
theorem InsW.sh {lo hi : Int} {i m : Nat} {D : PyData} (h : InsW lo hi i D) : InsW (lo + m) (hi + m) (m + i) D := fun nm ds e => by
  obtain ⟨a, b⟩ := h nm ds e
  refine ⟨fun z => ?_, fun z => ?_⟩
  · obtain ⟨t, x, y, w⟩ := a z
    exact ⟨t, x, by omega, by omega⟩
  · obtain ⟨t, x, y, w⟩ := b z
    exact ⟨t, x, by omega, by omega⟩
theorem PW.mono {lo hi lo' hi' : Int} {cs : List PyData} {rs : List (List Int)} (h : PW lo hi cs rs) (l : lo ≤ lo') (u : hi ≤ hi') : PW lo' hi' cs rs :=
  ⟨fun i D e => (h.c i D e).mono (by omega) (by omega), fun r hr => ⟨(h.e r hr).1, Int.le_trans (h.e r hr).2 (by omega)⟩⟩
theorem PW.no {cs : List PyData} (h : ∀ D ∈ cs, InsNo D) {lo hi : Int} : PW lo hi cs [] := ⟨fun i D e => (h D (List.mem_of_getElem? e)).w, fun r h => nomatch h⟩
structure RoomAt (K : PySem.W.Frag) (H : Hp) (st room lc ld : Addr) (n : Int) (cells : List Int) (called : List (List Int)) : Prop where
  at' : H room = some (.lst [.int n, .ref lc, .ref ld])
  cl : H lc = some (.lst (cells.map V.int))
  cd : ∃ xs, H ld = some (.lst xs) ∧ DTs K H xs (called.map regD)
  n1 : room ≠ st
  n2 : lc ≠ st
  n3 : ld ≠ st
  hn : 6 ≤ n ∧ n ≤ 20
  hc : ∀ c ∈ cells, 0 ≤ c ∧ c ≤ 4
  hd : ∀ r ∈ called, r.length = 4 ∧ 0 ≤ r.getD 2 0 ∧ r.getD 2 0 ≤ 6 ∧ 0 ≤ r.getD 3 0 ∧ r.getD 3 0 ≤ 6
  l1 : cells.length ≤ 10
  l2 : called.length ≤ 10
section
variable {K : PySem.W.Frag} {H H' : Hp} {st ca room lc ld : Addr} {ns : List Int} {n : Int} {cells : List Int} {called : List (List Int)}
theorem RoomAt.keep (R : RoomAt K H st room lc ld n cells called) (S : StD H st ca ns) (f : Frs st H H') : RoomAt K H' st room lc ld n cells called := by
  obtain ⟨xs, h, d⟩ := R.cd
  exact ⟨f _ _ R.at' R.n1, f _ _ R.cl R.n2, ⟨xs, f _ _ h R.n3, d.keep (S.kt f)⟩, R.n1, R.n2, R.n3, R.hn, R.hc, R.hd, R.l1, R.l2⟩
end
/-- a list of code -/
def CodeAt (K : PySem.W.Frag) (H : Hp) (l : Addr) (cs : List PyData) : Prop := ∃ us, H l = some (.lst us) ∧ DTs K H us cs
theorem CodeAt.keep {K : PySem.W.Frag} {H H' : Hp} {st ca l : Addr} {ns : List Int} {cs : List PyData} (h : CodeAt K H l cs) (S : StD H st ca ns) (f : Frs st H H') (n : l ≠ st) : CodeAt K H' l cs := by
  obtain ⟨us, e, d⟩ := h
  exact ⟨us, f _ _ e n, d.keep (S.kt f)⟩
def spWordL : Sp := fun vs H Q _ => ∃ (st ca : Addr) (ns : List Int), vs = [.ref st] ∧ StD H st ca ns ∧ ∀ (v : Int) (H' : Hp), StD H' st ca ns → Frs st H H' → Q (.int v) H'
def spOperL (K : PySem.W.Frag) : Sp := fun vs H Q _ => ∃ (st ca room lc ld : Addr) (ns : List Int) (n : Int) (cells : List Int) (called : List (List Int)), vs = [.ref st, .ref room] ∧ StD H st ca ns ∧ RoomAt K H st room lc ld n cells called ∧
  ∀ (u : V) (g : Op) (H' : Hp), DT K H' u (opD g) → StD H' st ca ns → Frs st H H' → Q u H'
def spCellsL (K : PySem.W.Frag) : Sp := fun vs H Q _ => ∃ (st ca room lc ld : Addr) (ns : List Int) (n : Int) (cells : List Int) (called : List (List Int)), vs = [.ref st, .ref room] ∧ StD H st ca ns ∧ RoomAt K H st room lc ld n cells called ∧ (∃ c ∈ cells, 0 < c) ∧
  ∀ (p lb : Addr) (cs : List PyData) (h c m : Int) (u : V) (g : Op) (H' : Hp), SqT K H' p [.ref lb, .int h, .int c, .int m, u] → CodeAt K H' lb cs → (∀ D ∈ cs, InsNo D) → cs.length ≤ 1 → lb ≠ st → DT K H' u (opD g) → StD H' st ca ns → Frs st H H' → Q (.ref p) H'
def spStraightL (K : PySem.W.Frag) : Sp := fun vs H Q _ => ∃ (st ca room lc ld : Addr) (ns : List Int) (n : Int) (cells : List Int) (called : List (List Int)), vs = [.ref st, .ref room] ∧ StD H st ca ns ∧ RoomAt K H st room lc ld n cells called ∧
  ∀ (l : Addr) (cs : List PyData) (H' : Hp), CodeAt K H' l cs → (∀ D ∈ cs, InsNo D) → cs.length ≤ 2 → l ≠ st → StD H' st ca ns → Frs st H H' → Q (.ref l) H'
theorem int_at {l : List Int} {v : Int} (h0 : 0 ≤ v) (h1 : v < (l.length : Int)) : ∃ x, x ∈ l ∧ atI (l.map V.int) v = some (.int x) := by
  have hlt : v.toNat < l.length := by omega
  refine ⟨l[v.toNat], List.getElem_mem hlt, ?_⟩
  have h := atI_nat (j := v.toNat) (xs := l.map V.int) (v := .int l[v.toNat]) (by rw [List.getElem?_map, List.getElem?_eq_getElem hlt]; rfl)
  rwa [show ((v.toNat : Nat) : Int) = v by omega] at h
theorem str_at {l : List Str} {v : Int} (h0 : 0 ≤ v) (h1 : v < (l.length : Int)) : ∃ x, x ∈ l ∧ atI (l.map V.str) v = some (.str x) := by
  have hlt : v.toNat < l.length := by omega
  refine ⟨l[v.toNat], List.getElem_mem hlt, ?_⟩
  have h := atI_nat (j := v.toNat) (xs := l.map V.str) (v := .str l[v.toNat]) (by rw [List.getElem?_map, List.getElem?_eq_getElem hlt]; rfl)
  rwa [show ((v.toNat : Nat) : Int) = v by omega] at h
section
variable {P : Program} {w : World} {K : PySem.W.Frag} {mg : Str → Option Value} {base : Heap} {a : Ad}
theorem ok_law_word (T : Txt K mg a) : FnOk P w K mg base CX0 4 a.f_law_word a.d_law_word ["state"] spWordL := by
  have G_law_draw : FnOk P w K mg base CX0 3 _ _ _ _ := ok_law_draw T
  refine T.F__law_word.ok sc_law_word (fun vs H Q E h => ?_) (fun cdv A outer s H vs Q E hr h => ?_)
  · obtain ⟨_, _, _, rfl, _⟩ := h; rfl
  · obtain ⟨st, ca, ns, rfl, S, q⟩ := h
    refine ⟨_, (pss_cons (ps_set (i := 1) sc_law_word.nd rfl (Or.inl rfl) (pe_call G_law_draw (hr.mono (by decide)) rfl T.g__law_draw T.k__law_draw T.bd__law_draw .nil pass0 (pa_cons (pv 0) (pa_cons pe_int pa_nil))))
      (pss_cons (ps_if (pt_cmpR op_lt (pv 1) pe_int (nomark _)) (pss_one (ps_ret (pe_op op_sub (pe_call G_law_draw (hr.mono (by decide)) rfl T.g__law_draw T.k__law_draw T.bd__law_draw .nil pass0 (pa_cons (pv 0) (pa_cons pe_int pa_nil))) pe_int))) pss_nil)
      (pss_cons (ps_if (pt_cmpR op_eq (pv 1) pe_int (nomark _)) (pss_one (ps_ret (pe_ix ix_list (pe_lst (pa_cons (pe_un un_neg pe_int) (pa_cons pe_int (pa_cons pe_int (pa_cons pe_int (pa_cons (pe_un un_neg pe_int) (pa_cons (pe_un un_neg pe_int) (pa_cons pe_int (pa_cons pe_int pa_nil))))))))) (pe_call G_law_draw (hr.mono (by decide)) rfl T.g__law_draw T.k__law_draw T.bd__law_draw .nil pass0 (pa_cons (pv 0) (pa_cons pe_int pa_nil))) (fun _ _ => rfl)))) pss_nil)
      (pss_one (ps_ret (pe_op op_sub (pe_call G_law_draw (hr.mono (by decide)) rfl T.g__law_draw T.k__law_draw T.bd__law_draw .nil pass0 (pa_cons (pv 0) (pa_cons pe_int pa_nil))) pe_int)))))), ?_⟩
    refine ⟨_, rfl, st, ca, ns, 6, rfl, S, by decide, by decide, fun v H1 v0 v1 S1 f1 => ?_⟩
    refine ⟨_, rfl, _, _, rfl, rfl, _, rfl, ite3 (fun c => ?_) (fun c => ?_)⟩
    · exact ⟨_, rfl, st, ca, ns, 12, rfl, S1, by decide, by decide, fun v H2 v0 v1 S2 f2 => ⟨_, _, rfl, rfl, q _ _ S2 (f1.tr f2)⟩⟩
    refine ⟨_, rfl, rfl, _, rfl, ite3 (fun c => ?_) (fun c => ?_)⟩
    · refine ⟨_, rfl, _, rfl, _, rfl, (by show 8 ≤ sizeLine; decide), fun l nl => ?_⟩
      refine ⟨_, rfl, st, ca, ns, 8, rfl, S1.new nl, by decide, by decide, fun v H2 v0 v1 S2 f2 => ?_⟩
      have hl := f2 l _ upd_same (S1.ne nl)
      obtain ⟨x, _, hx⟩ := int_at (l := [-2147483648, 2147483647, 16383, 16384, -16384, -16385, 2048, 100000]) v0 (by simpa using v1)
      exact ⟨_, _, _, _, rfl, rfl, SqL.of hl, hx, q _ _ S2 ((f1.new nl).tr f2)⟩
    · exact ⟨_, rfl, st, ca, ns, 4294967296, rfl, S1, by decide, by decide, fun v H2 v0 v1 S2 f2 => ⟨_, _, rfl, rfl, q _ _ S2 (f1.tr f2)⟩⟩
theorem ok_law_operand (T : Txt K mg a) : FnOk P w K mg base CX0 5 a.f_law_operand a.d_law_operand ["state", "room"] (spOperL K) := by
  have G_law_draw : FnOk P w K mg base CX0 3 _ _ _ _ := ok_law_draw T
  have G_law_word : FnOk P w K mg base CX0 4 _ _ _ _ := ok_law_word T
  refine T.F__law_operand.ok sc_law_operand (fun vs H Q E h => ?_) (fun cdv A outer s H vs Q E hr h => ?_)
  · obtain ⟨_, _, _, _, _, _, _, _, _, rfl, _⟩ := h; rfl
  · obtain ⟨st, ca, room, lc, ld, ns, n, cells, called, rfl, S, R, q⟩ := h
    refine ⟨_, (pss_cons (ps_if (pt_cmpR op_eq (pe_call G_law_draw (hr.mono (by decide)) rfl T.g__law_draw T.k__law_draw T.bd__law_draw .nil pass0 (pa_cons (pv 0) (pa_cons pe_int pa_nil))) pe_int (nomark _)) (pss_one (ps_ret (pe_tup (pa_cons pe_str (pa_cons (pe_call G_law_word (hr.mono (by decide)) rfl T.g__law_word T.k__law_word T.bd__law_word .nil pass0 (pa_cons (pv 0) pa_nil)) pa_nil))))) pss_nil)
      (pss_one (ps_ret (pe_tup (pa_cons pe_str (pa_cons (pe_call G_law_draw (hr.mono (by decide)) rfl T.g__law_draw T.k__law_draw T.bd__law_draw .nil pass0 (pa_cons (pv 0) (pa_cons (pe_ix ix_list (pv 1) pe_int (fun _ _ => rfl)) pa_nil))) pa_nil)))))), ?_⟩
    have hn := R.hn
    refine ⟨_, rfl, st, ca, ns, 3, rfl, S, by decide, by decide, fun v H1 v0 v1 S1 f1 => ?_⟩
    have fin : ∀ {z : Str} {m : Int} {H2 : Hp} {p : Addr}, StD H2 st ca ns → Frs st H1 H2 → H2 p = none → Q (.ref p) (upd H2 p (.tup [.str z, .int m])) := fun {z m H2 p} S2 f2 np =>
      q _ (z, m) _ (lay np (.cons (.str z) (.cons (.int m) .nil))) (S2.new np) ((f1.tr f2).new np)
    refine ⟨rfl, _, rfl, ite3 (fun c => ?_) (fun c => ?_)⟩
    · exact ⟨_, rfl, st, ca, ns, rfl, S1, fun v H2 S2 f2 => ⟨(by show 2 ≤ sizeLine; decide), fun p np => fin S2 f2 np⟩⟩
    · exact ⟨_, rfl, _, rfl, _, _, _, _, rfl, rfl, SqL.of (f1 _ _ R.at' R.n1), rfl, st, ca, ns, n, rfl, S1, by omega, by omega, fun v H2 v0 v1 S2 f2 => ⟨(by show 2 ≤ sizeLine; decide), fun p np => fin S2 f2 np⟩⟩
theorem ok_law_cells (T : Txt K mg a) : FnOk P w K mg base CX0 6 a.f_law_cells a.d_law_cells ["state", "room"] (spCellsL K) := by
  have G_law_draw : FnOk P w K mg base CX0 3 _ _ _ _ := ok_law_draw T
  have G_law_operand : FnOk P w K mg base CX0 5 _ _ _ _ := ok_law_operand T
  refine T.F__law_cells.ok sc_law_cells (fun vs H Q E h => ?_) (fun cdv A outer s H vs Q E hr h => ?_)
  · obtain ⟨_, _, _, _, _, _, _, _, _, rfl, _⟩ := h; rfl
  · obtain ⟨st, ca, room, lc, ld, ns, n, cells, called, rfl, S, R, ⟨c0, hc0, hp0⟩, q⟩ := h
    have hz := sizeLine_eq
    have hn := R.hn
    have hl1 := R.l1
    refine ⟨_, (pss_cons (ps_setLc (i := 2) (own := [("k", 3)]) (g := gName 3) rfl sc_law_cells.nd rfl rfl (sw_true rfl rfl rfl (by decide +kernel)) (pi_range1 rfl T.b_range (pa_cons (pe_callB call_len_seq (by rfl) T.b_len (by decide +kernel) (pa_cons (pe_ix ix_list (pv 1) pe_int (fun _ _ => rfl)) pa_nil)) pa_nil)) (blkOk_by (own := [("k", 3)]) (N := ["state", "room", "hops", "k", "chosen", "cell", "count", "number"]) (sc := defScope s_law_cells) (by decide +kernel)) (fun _ _ _ _ _ => pg_name (i := 3) sc_law_cells.nd rfl (Or.inl rfl)) (fun _ _ _ _ _ => (pts_one (pt_cmpR op_gt (pe_ix (ix_listK (K := K) rfl) (pe_ix (ix_listK (K := K) rfl) (pv 1) pe_int (fun _ _ => rfl)) (pv 3) (fun _ _ => rfl)) pe_int (nomark _)))) (fun _ _ _ _ _ => (pv 3)))
      (pss_cons (ps_set (i := 4) sc_law_cells.nd rfl (Or.inl rfl) (pe_ix ix_list (pv 2) (pe_call G_law_draw (hr.mono (by decide)) rfl T.g__law_draw T.k__law_draw T.bd__law_draw .nil pass0 (pa_cons (pv 0) (pa_cons (pe_callB call_len_seq (by rfl) T.b_len (by decide +kernel) (pa_cons (pv 2) pa_nil)) pa_nil))) (fun _ _ => rfl)))
      (pss_cons (ps_set (i := 5) sc_law_cells.nd rfl (Or.inl rfl) (pe_call G_law_draw (hr.mono (by decide)) rfl T.g__law_draw T.k__law_draw T.bd__law_draw .nil pass0 (pa_cons (pv 0) (pa_cons (pe_ix ix_list (pe_ix ix_list (pv 1) pe_int (fun _ _ => rfl)) (pv 4) (fun _ _ => rfl)) pa_nil))))
      (pss_cons (ps_set (i := 6) sc_law_cells.nd rfl (Or.inl rfl) (pe_op op_add pe_int (pe_call G_law_draw (hr.mono (by decide)) rfl T.g__law_draw T.k__law_draw T.bd__law_draw .nil pass0 (pa_cons (pv 0) (pa_cons (pe_op op_sub (pe_ix ix_list (pe_ix ix_list (pv 1) pe_int (fun _ _ => rfl)) (pv 4) (fun _ _ => rfl)) (pv 5)) pa_nil)))))
      (pss_cons (ps_if (pt_cmpR op_eq (pe_call G_law_draw (hr.mono (by decide)) rfl T.g__law_draw T.k__law_draw T.bd__law_draw .nil pass0 (pa_cons (pv 0) (pa_cons pe_int pa_nil))) pe_int (nomark _)) (pss_one (ps_ret (pe_tup (pa_cons (pe_lst pa_nil) (pa_cons (pv 4) (pa_cons (pv 5) (pa_cons (pv 6) (pa_cons (pe_tup (pa_cons pe_str (pa_cons (pe_call G_law_draw (hr.mono (by decide)) rfl T.g__law_draw T.k__law_draw T.bd__law_draw .nil pass0 (pa_cons (pv 0) (pa_cons (pv 6) pa_nil))) pa_nil))) pa_nil)))))))) pss_nil)
      (pss_cons (ps_set (i := 7) sc_law_cells.nd rfl (Or.inl rfl) (pe_call G_law_draw (hr.mono (by decide)) rfl T.g__law_draw T.k__law_draw T.bd__law_draw .nil pass0 (pa_cons (pv 0) (pa_cons (pe_ix ix_list (pv 1) pe_int (fun _ _ => rfl)) pa_nil))))
      (pss_one (ps_ret (pe_tup (pa_cons (pe_lst (pa_cons (pe_tup (pa_cons pe_str (pa_cons (pv 7) (pa_cons (pe_call G_law_operand (hr.mono (by decide)) rfl T.g__law_operand T.k__law_operand T.bd__law_operand .nil pass0 (pa_cons (pv 0) (pa_cons (pv 1) pa_nil))) (pa_cons (pe_tup (pa_cons pe_str (pa_cons (pv 6) pa_nil))) (pa_cons pe_int pa_nil)))))) pa_nil)) (pa_cons (pv 4) (pa_cons (pv 5) (pa_cons (pv 6) (pa_cons (pe_tup (pa_cons pe_str (pa_cons (pv 7) pa_nil))) pa_nil)))))))))))))), ?_⟩
    refine ⟨_, rfl, _, _, _, _, rfl, rfl, SqL.of R.at', rfl, _, _, rfl, .inl (SqL.of R.cl), _, rfl, by simp <;> omega, by simp <;> omega, fun D nD => ?_⟩
    refine lc_range (lo := 0) (n := (((cells.map V.int).length : Nat) : Int).toNat) (fun i H' => Same H H' ∧ ∃ ks : List Nat, H' D = some (.lst (ks.map fun (k : Nat) => V.int (k : Int))) ∧ ks.length ≤ i ∧ (∀ k ∈ ks, ∃ c, cells[k]? = some c ∧ 0 < c) ∧ ∀ j, j < i → ∀ c, cells[j]? = some c → 0 < c → ks ≠ [])
      ⟨sN (Same.refl H) nD, [], upd_same, Nat.le_refl _, (fun k h => nomatch h), fun j h => absurd h (by omega)⟩ ?_ ?_
    · rintro i H' hi ⟨ss, ks, hD, hkl, hk, hj⟩
      have hi' : i < cells.length := by simp at hi; exact hi
      have e0 : (0 : Int) + (i : Int) = (i : Int) := Int.zero_add _
      rw [e0]
      refine ⟨rfl, ?_⟩
      have hat : atI (cells.map V.int) (i : Int) = some (.int cells[i]) := atI_nat (by simp [hi'])
      refine ⟨_, rfl, _, _, _, _, rfl, rfl, SqL.of (ss _ _ R.at'), rfl, _, rfl, _, _, _, _, rfl, rfl, SqL.of (ss _ _ R.cl), hat, _, _, rfl, rfl, _, rfl, ?_⟩
      cases c : decide ((0 : Int) < cells[i]) with
      | true =>
        have hp : 0 < cells[i] := of_decide_eq_true c
        refine iteT ⟨_, rfl, _, hD, (by simp <;> omega), sUpd ss nD, ks ++ [i], by rw [upd_same, List.map_append]; rfl, by simp <;> omega, fun k hm => ?_, fun j _ c' _ _ z => by simp at z⟩
        rcases List.mem_append.mp hm with h | h
        · exact hk k h
        · rw [List.mem_singleton.mp h]
          exact ⟨cells[i], List.getElem?_eq_getElem hi', hp⟩
      | false =>
        refine iteF ⟨ss, ks, hD, by omega, hk, fun j hj' c' e' p' => ?_⟩
        by_cases e : j = i
        · subst e
          rw [List.getElem?_eq_getElem hi'] at e'
          obtain rfl := Option.some.inj e'
          exact absurd p' (of_decide_eq_false c)
        · exact hj j (by omega) c' e' p'
    · rintro H1 ⟨ss, ks, hD, hkl, hk, hj⟩
      obtain ⟨j0, hj0, ej0⟩ := List.getElem_of_mem hc0
      have hks : ks ≠ [] := hj j0 (by simp; exact hj0) c0 (by rw [List.getElem?_eq_getElem hj0, ej0]) hp0
      have hkpos : 0 < ks.length := List.length_pos_iff.mpr hks
      have S1 := S.same ss
      have hDs : D ≠ st := S.ne nD
      have R1 := R.keep S (fun b o e _ => ss b o e)
      simp at hkl
      refine ⟨_, rfl, _, rfl, _, rfl, D, _, rfl, .inl (SqL.of hD), st, ca, ns, (ks.length : Int), by simp, S1, by omega, by omega, fun v H2 v0 v1 S2 f2 => ?_⟩
      have hv : v.toNat < ks.length := by omega
      have hat : atI (ks.map fun (k : Nat) => V.int (k : Int)) v = some (.int ((ks[v.toNat] : Nat) : Int)) := by
        have := atI_nat (j := v.toNat) (xs := ks.map fun (k : Nat) => V.int (k : Int)) (v := .int ((ks[v.toNat] : Nat) : Int)) (by simp [hv])
        rwa [show ((v.toNat : Nat) : Int) = v by omega] at this
      obtain ⟨cc, ecc, pcc⟩ := hk ks[v.toNat] (List.getElem_mem hv)
      have hcc := R.hc cc (List.mem_of_getElem? ecc)
      have hatc : atI (cells.map V.int) ((ks[v.toNat] : Nat) : Int) = some (.int cc) := atI_nat (by simp [ecc])
      refine ⟨_, _, _, _, rfl, rfl, SqL.of (f2 _ _ hD hDs), hat, ?_⟩
      have R2 := R1.keep S1 f2
      generalize ks[v.toNat] = hh at hatc ecc ⊢
      refine ⟨_, rfl, _, rfl, _, _, _, _, rfl, rfl, SqL.of R2.at', rfl, _, rfl, _, _, _, _, rfl, rfl, SqL.of R2.cl, hatc, st, ca, ns, cc, rfl, S2, by omega, by omega, fun v3 H3 a3 b3 S3 f3 => ?_⟩
      have R3 := R2.keep S2 f3
      refine ⟨_, rfl, _, rfl, _, _, _, _, rfl, rfl, SqL.of R3.at', rfl, _, rfl, _, _, _, _, rfl, rfl, SqL.of R3.cl, hatc, _, rfl, _, _, rfl, rfl, st, ca, ns, cc - v3, rfl, S3, by omega, by omega, fun v4 H4 a4 b4 S4 f4 => ⟨_, _, rfl, rfl, ?_⟩⟩
      have R4 := R3.keep S3 f4
      have F4 : Frs st H H4 := (((Frs.of ss).tr f2).tr f3).tr f4
      refine ⟨_, rfl, st, ca, ns, 2, rfl, S4, by decide, by decide, fun v5 H5 a5 b5 S5 f5 => ?_⟩
      have R5 := R4.keep S4 f5
      have F5 := F4.tr f5
      refine ⟨rfl, _, rfl, ite3 (fun c => ?_) (fun c => ?_)⟩
      · refine ⟨by decide, fun l nl => ⟨_, rfl, _, rfl, _, rfl, _, rfl, _, rfl, st, ca, ns, 1 + v4, rfl, S5.new nl, by omega, by omega, fun v6 H6 a6 b6 S6 f6 => ⟨(by show 2 ≤ sizeLine; decide), fun p6 n6 => ⟨(by show 5 ≤ sizeLine; decide), fun p np => ?_⟩⟩⟩⟩
        have hl6 := f6 _ _ upd_same (S5.ne nl)
        have s8 := sN (sN (Same.refl H6) n6 (o := .tup [.str "int", .int v6])) np (o := .tup [.ref l, .int (hh : Int), .int v3, .int (1 + v4), .ref p6])
        refine q p l [] (hh : Int) v3 (1 + v4) (.ref p6) ("int", v6) _ (SqT.of upd_same) ⟨[], s8 _ _ hl6, .nil⟩ (fun D h => nomatch h) (by decide) (S5.ne nl) ?_ (S6.same s8) (((((F5.new nl).tr f6).new n6).new np))
        exact (lay n6 (.cons (.str _) (.cons (.int _) .nil))).keep (KT.new np)
      · refine ⟨_, rfl, _, rfl, _, _, _, _, rfl, rfl, SqL.of R5.at', rfl, st, ca, ns, n, rfl, S5, by omega, by omega, fun v6 H6 a6 b6 S6 f6 => ?_⟩
        have R6 := R5.keep S5 f6
        refine ⟨_, rfl, _, rfl, _, rfl, st, ca, room, lc, ld, ns, n, cells, called, rfl, S6, R6, fun u g H7 du S7 f7 => ?_⟩
        refine ⟨_, rfl, (by show 2 ≤ sizeLine; decide), fun p1 n1 => ⟨(by show 5 ≤ sizeLine; decide), fun p2 n2 => ⟨(by show 1 ≤ sizeLine; decide), fun l nl => ?_⟩⟩⟩
        refine ⟨_, rfl, _, rfl, _, rfl, _, rfl, (by show 2 ≤ sizeLine; decide), fun p3 n3 => ⟨(by show 5 ≤ sizeLine; decide), fun p np => ?_⟩⟩
        have d1 := (lay n1 (.cons (.str "int") (.cons (.int (1 + v4)) .nil)) : DT K _ _ _)
        have d2 := lay n2 (.cons (.str "mod") (.cons (.int v6) (.cons (du.keep (KT.new n1)) (.cons d1 (.cons (.int 0) .nil)))))
        have hl := sN (sN (Same.refl _) n3 (o := .tup [.str "reg", .int v6])) np (o := .tup [.ref l, .int (hh : Int), .int v3, .int (1 + v4), .ref p3]) _ _ upd_same
        refine q p l _ (hh : Int) v3 (1 + v4) (.ref p3) ("reg", v6) _ (SqT.of upd_same) ⟨_, hl, .cons (d2.keep (((KT.new nl).tr (KT.new n3)).tr (KT.new np))) .nil⟩ (fun D h => ?_) (by show 1 ≤ 1; decide) ((S7.same (sN (sN (Same.refl _) n1) n2)).ne nl) ?_ (S7.same (sN (sN (sN (sN (sN (Same.refl _) n1) n2) nl) n3) np)) ((((((((F5.tr f6).tr f7).new n1).new n2).new nl).new n3).new np))
        · rw [List.mem_singleton.mp h]
          exact insS (by decide +kernel)
        · exact (lay n3 (.cons (.str _) (.cons (.int _) .nil))).keep (KT.new np)
end

/-! ### straight code -/
theorem int_dec {x y : Int} (c : decide (V.int x = V.int y) = true) : x = y := by
  have := of_decide_eq_true c
  injection this
theorem int_dec' {x y : Int} (c : decide (V.int x = V.int y) = false) : x ≠ y := fun e => by
  rw [e] at c
  simp at c
structure Later (R : Prop) : Prop where
  r : R
theorem twice {R G : Prop} (h : Later R → G) (r : R) : G := h ⟨r⟩
theorem sum_pos : ∀ {l : List Int}, 0 < l.sum → ∃ c ∈ l, 0 < c
  | [], h => by simp at h
  | x :: r, h => by
    by_cases c : 0 < x
    · exact ⟨x, List.mem_cons_self, c⟩
    · rw [List.sum_cons] at h
      obtain ⟨y, hy, py⟩ := sum_pos (l := r) (by omega)
      exact ⟨y, List.mem_cons_of_mem _ hy, py⟩
theorem two_at {x y : V} {v : Int} (h0 : 0 ≤ v) (h1 : v < 2) : ∃ u, (u = x ∨ u = y) ∧ atI [x, y] v = some u := by
  have : v = 0 ∨ v = 1 := by omega
  rcases this with e | e <;> subst e
  · exact ⟨x, .inl rfl, rfl⟩
  · exact ⟨y, .inr rfl, rfl⟩
section
variable {P : Program} {w : World} {K : PySem.W.Frag} {mg : Str → Option Value} {base : Heap} {a : Ad}
set_option maxHeartbeats 8000000 in
theorem ok_law_straight (T : Txt K mg a) : FnOk P w K mg base CX0 7 a.f_law_straight a.d_law_straight ["state", "room"] (spStraightL K) := by
  have G_law_draw : FnOk P w K mg base CX0 3 _ _ _ _ := ok_law_draw T
  have G_law_word : FnOk P w K mg base CX0 4 _ _ _ _ := ok_law_word T
  have G_law_operand : FnOk P w K mg base CX0 5 _ _ _ _ := ok_law_operand T
  have G_law_cells : FnOk P w K mg base CX0 6 _ _ _ _ := ok_law_cells T
  refine T.F__law_straight.ok sc_law_straight (fun vs H Q E h => ?_) (fun cdv A outer s H vs Q E hr h => ?_)
  · obtain ⟨_, _, _, _, _, _, _, _, _, rfl, _⟩ := h; rfl
  · obtain ⟨st, ca, room, lc, ld, ns, n, cells, called, rfl, S, R, q⟩ := h
    have hz := sizeLine_eq
    have hn := R.hn
    refine ⟨_, (pss_cons (ps_set (i := 2) sc_law_straight.nd rfl (Or.inr rfl) (pe_call G_law_draw (hr.mono (by decide)) rfl T.g__law_draw T.k__law_draw T.bd__law_draw .nil pass0 (pa_cons (pv 0) (pa_cons (pe_ix ix_list (pv 1) pe_int (fun _ _ => rfl)) pa_nil))))
      (pss_cons (ps_set (i := 3) sc_law_straight.nd rfl (Or.inl rfl) (pe_call G_law_operand (hr.mono (by decide)) rfl T.g__law_operand T.k__law_operand T.bd__law_operand .nil pass0 (pa_cons (pv 0) (pa_cons (pv 1) pa_nil))))
      (pss_cons (ps_set (i := 4) sc_law_straight.nd rfl (Or.inl rfl) (pe_call G_law_operand (hr.mono (by decide)) rfl T.g__law_operand T.k__law_operand T.bd__law_operand .nil pass0 (pa_cons (pv 0) (pa_cons (pv 1) pa_nil))))
      (pss_cons (ps_set (i := 5) sc_law_straight.nd rfl (Or.inl rfl) (pe_call G_law_draw (hr.mono (by decide)) rfl T.g__law_draw T.k__law_draw T.bd__law_draw .nil pass0 (pa_cons (pv 0) (pa_cons pe_int pa_nil))))
      (pss_cons (ps_set (i := 6) sc_law_straight.nd rfl (Or.inl rfl) (pe_call G_law_draw (hr.mono (by decide)) rfl T.g__law_draw T.k__law_draw T.bd__law_draw .nil pass0 (pa_cons (pv 0) (pa_cons pe_int pa_nil))))
      (pss_cons (ps_if (pt_cmpR op_lt (pv 6) pe_int (nomark _)) (pss_one (ps_ret (pe_lst (pa_cons (pe_tup (pa_cons pe_str (pa_cons (pv 2) (pa_cons (pv 3) pa_nil)))) pa_nil)))) pss_nil)
      (pss_cons (ps_if (pt_cmpR op_eq (pv 6) pe_int (nomark _)) (pss_one (ps_ret (pe_lst (pa_cons (pe_tup (pa_cons (pe_ix ix_list (pe_lst (pa_cons pe_str (pa_cons pe_str pa_nil))) (pe_call G_law_draw (hr.mono (by decide)) rfl T.g__law_draw T.k__law_draw T.bd__law_draw .nil pass0 (pa_cons (pv 0) (pa_cons pe_int pa_nil))) (fun _ _ => rfl)) (pa_cons (pv 2) (pa_cons (pv 3) (pa_cons (pv 5) pa_nil))))) pa_nil)))) pss_nil)
      (pss_cons (ps_if (pt_cmpR op_lt (pv 6) pe_int (nomark _)) (pss_one (ps_ret (pe_lst (pa_cons (pe_tup (pa_cons (pe_ix ix_list (pe_lst (pa_cons pe_str (pa_cons pe_str (pa_cons pe_str (pa_cons pe_str (pa_cons pe_str (pa_cons pe_str pa_nil))))))) (pe_call G_law_draw (hr.mono (by decide)) rfl T.g__law_draw T.k__law_draw T.bd__law_draw .nil pass0 (pa_cons (pv 0) (pa_cons pe_int pa_nil))) (fun _ _ => rfl)) (pa_cons (pv 2) (pa_cons (pv 3) (pa_cons (pv 4) (pa_cons (pv 5) pa_nil)))))) pa_nil)))) pss_nil)
      (pss_cons (ps_if (pt_cmpR op_eq (pv 6) pe_int (nomark _)) (pss_one (ps_ret (pe_lst (pa_cons (pe_tup (pa_cons (pe_ix ix_list (pe_lst (pa_cons pe_str (pa_cons pe_str pa_nil))) (pe_call G_law_draw (hr.mono (by decide)) rfl T.g__law_draw T.k__law_draw T.bd__law_draw .nil pass0 (pa_cons (pv 0) (pa_cons pe_int pa_nil))) (fun _ _ => rfl)) (pa_cons (pv 2) (pa_cons (pv 3) (pa_cons (pv 4) pa_nil))))) pa_nil)))) pss_nil)
      (pss_cons (ps_if (pt_cmpR op_eq (pv 6) pe_int (nomark _)) (pss_cons (ps_set (i := 7) sc_law_straight.nd rfl (Or.inl rfl) (pe_callB cr_sorted (by rfl) T.b_sorted (by decide +kernel) (pa_cons (pe_lst (pa_cons (pe_call G_law_word (hr.mono (by decide)) rfl T.g__law_word T.k__law_word T.bd__law_word .nil pass0 (pa_cons (pv 0) pa_nil)) (pa_cons (pe_call G_law_word (hr.mono (by decide)) rfl T.g__law_word T.k__law_word T.bd__law_word .nil pass0 (pa_cons (pv 0) pa_nil)) pa_nil))) pa_nil)))
      (pss_cons (ps_asg (pe_ix ix_list (pe_lst (pa_cons (pe_ix ix_list (pv 7) pe_int (fun _ _ => rfl)) (pa_cons (pe_un un_neg pe_int) pa_nil))) (pe_call G_law_draw (hr.mono (by decide)) rfl T.g__law_draw T.k__law_draw T.bd__law_draw .nil pass0 (pa_cons (pv 0) (pa_cons pe_int pa_nil))) (fun _ _ => rfl)) (pg_sub (pv 7) pe_int set_list))
      (pss_cons (ps_asg (pe_ix ix_list (pe_lst (pa_cons (pe_ix ix_list (pv 7) pe_int (fun _ _ => rfl)) (pa_cons pe_int pa_nil))) (pe_call G_law_draw (hr.mono (by decide)) rfl T.g__law_draw T.k__law_draw T.bd__law_draw .nil pass0 (pa_cons (pv 0) (pa_cons pe_int pa_nil))) (fun _ _ => rfl)) (pg_sub (pv 7) pe_int set_list))
      (pss_one (ps_ret (pe_lst (pa_cons (pe_tup (pa_cons pe_str (pa_cons (pv 3) (pa_cons (pe_ix ix_list (pv 7) pe_int (fun _ _ => rfl)) (pa_cons (pe_ix ix_list (pv 7) pe_int (fun _ _ => rfl)) (pa_cons (pv 5) pa_nil)))))) pa_nil))))))) pss_nil)
      (pss_cons (ps_if (PW.pt (pw_and (pt_cmpR op_lt (pv 6) pe_int (nomark _)) (pw_and1 (pt_cmpR op_gt (pe_callB (cr_sum rfl) (by rfl) T.b_sum (by decide +kernel) (pa_cons (pe_ix ix_list (pv 1) pe_int (fun _ _ => rfl)) pa_nil)) pe_int (nomark _))))) (pss_cons (ps_asg (pe_call G_law_cells (hr.mono (by decide)) rfl T.g__law_cells T.k__law_cells T.bd__law_cells .nil pass0 (pa_cons (pv 0) (pa_cons (pv 1) pa_nil))) (pg_tup rfl (pgs_cons (pg_name (i := 8) sc_law_straight.nd rfl (Or.inl rfl)) (pgs_cons (pg_name (i := 9) sc_law_straight.nd rfl (Or.inl rfl)) (pgs_cons (pg_name (i := 10) sc_law_straight.nd rfl (Or.inl rfl)) (pgs_cons (pg_name (i := 11) sc_law_straight.nd rfl (Or.inl rfl)) (pgs_cons (pg_name (i := 12) sc_law_straight.nd rfl (Or.inl rfl)) pgs_nil)))))))
      (pss_one (ps_ret (pe_op op_cat (pv 8) (pe_ix ix_list (pe_lst (pa_cons (pe_lst (pa_cons (pe_tup (pa_cons pe_str (pa_cons (pv 2) (pa_cons (pv 9) (pa_cons (pv 10) (pa_cons (pv 11) (pa_cons (pv 12) pa_nil))))))) pa_nil)) (pa_cons (pe_lst (pa_cons (pe_tup (pa_cons pe_str (pa_cons (pv 9) (pa_cons (pv 10) (pa_cons (pv 11) (pa_cons (pv 12) (pa_cons (pv 4) pa_nil))))))) pa_nil)) pa_nil))) (pe_op op_sub (pv 6) pe_int) (fun _ _ => rfl)))))) pss_nil)
      (pss_cons (ps_if (PW.pt (pw_and (pt_cmpR op_lt (pv 6) pe_int (nomark _)) (pw_and1 (pt_cmpR op_gt (pe_callB call_len_seq (by rfl) T.b_len (by decide +kernel) (pa_cons (pe_ix ix_list (pv 1) pe_int (fun _ _ => rfl)) pa_nil)) pe_int (nomark _))))) (pss_cons (ps_asg (pe_ix ix_list (pe_ix ix_list (pv 1) pe_int (fun _ _ => rfl)) (pe_call G_law_draw (hr.mono (by decide)) rfl T.g__law_draw T.k__law_draw T.bd__law_draw .nil pass0 (pa_cons (pv 0) (pa_cons (pe_callB call_len_seq (by rfl) T.b_len (by decide +kernel) (pa_cons (pe_ix ix_list (pv 1) pe_int (fun _ _ => rfl)) pa_nil)) pa_nil))) (fun _ _ => rfl)) (pg_tup rfl (pgs_cons (pg_name (i := 13) sc_law_straight.nd rfl (Or.inl rfl)) (pgs_cons (pg_name (i := 9) sc_law_straight.nd rfl (Or.inl rfl)) (pgs_cons (pg_name (i := 14) sc_law_straight.nd rfl (Or.inl rfl)) (pgs_cons (pg_name (i := 15) sc_law_straight.nd rfl (Or.inl rfl)) pgs_nil))))))
      (pss_cons (ps_set (i := 16) sc_law_straight.nd rfl (Or.inl rfl) (pe_callTy call_tuple_of (by rfl) T.b_tuple (by decide +kernel) (pa_cons (pe_lc (own := [("k", 17)]) (g := gName 17) rfl sc_law_straight.nd (pi_range1 rfl T.b_range (pa_cons (pv 14) pa_nil)) (blkOk_by (own := [("k", 17)]) (N := ["state", "room", "d", "x", "y", "p", "choice", "pair", "before", "hops", "cell", "count", "index", "unit", "arguments", "results", "values", "k"]) (sc := defScope s_law_straight) (by decide +kernel)) (fun _ _ _ _ _ => pg_name (i := 17) sc_law_straight.nd rfl (Or.inl rfl)) (fun _ _ _ _ _ => pts_nil) (fun _ _ _ _ _ => (pe_call G_law_operand (hr.mono (by decide)) rfl T.g__law_operand T.k__law_operand T.bd__law_operand .nil pass0 (pa_cons (pv 0) (pa_cons (pv 1) pa_nil))))) pa_nil)))
      (pss_one (ps_ret (pe_lst (pa_cons (pe_tup (pa_cons pe_str (pa_cons (pv 13) (pa_cons (pv 9) (pa_cons (pv 16) (pa_cons (pe_callTy call_tuple_of (by rfl) T.b_tuple (by decide +kernel) (pa_cons (pe_lc (own := [("k", 17)]) (g := gName 17) rfl sc_law_straight.nd (pi_range1 rfl T.b_range (pa_cons (pv 15) pa_nil)) (blkOk_by (own := [("k", 17)]) (N := ["state", "room", "d", "x", "y", "p", "choice", "pair", "before", "hops", "cell", "count", "index", "unit", "arguments", "results", "values", "k"]) (sc := defScope s_law_straight) (by decide +kernel)) (fun _ _ _ _ _ => pg_name (i := 17) sc_law_straight.nd rfl (Or.inl rfl)) (fun _ _ _ _ _ => pts_nil) (fun _ _ _ _ _ => (pe_op op_mod (pe_callTy call_int1 (by rfl) T.b_int (by decide +kernel) (pa_cons (pe_op op_add (pv 2) (pv 17)) pa_nil)) (pe_ix (ix_listK (K := K) rfl) (pv 1) pe_int (fun _ _ => rfl))))) pa_nil)) (pa_cons (pv 5) pa_nil))))))) pa_nil)))))) pss_nil)
      (pss_cons (ps_if (pt_cmpR op_eq (pv 6) pe_int (nomark _)) (pss_one (ps_ret (pe_lst (pa_cons (pe_tup (pa_cons pe_str (pa_cons (pv 2) (pa_cons (pv 5) pa_nil)))) pa_nil)))) pss_nil)
      (pss_cons (ps_if (pt_cmpR op_eq (pv 6) pe_int (nomark _)) (pss_one (ps_ret (pe_ix ix_list (pe_lst (pa_cons (pe_lst (pa_cons (pe_tup (pa_cons pe_str pa_nil)) pa_nil)) (pa_cons (pe_lst (pa_cons (pe_tup (pa_cons pe_str (pa_cons (pe_call G_law_draw (hr.mono (by decide)) rfl T.g__law_draw T.k__law_draw T.bd__law_draw .nil pass0 (pa_cons (pv 0) (pa_cons pe_int pa_nil))) (pa_cons (pv 5) pa_nil)))) pa_nil)) pa_nil))) (pe_callTy call_int1 (by rfl) T.b_int (by decide +kernel) (pa_cons (pe_cmpR op_eq (pe_call G_law_draw (hr.mono (by decide)) rfl T.g__law_draw T.k__law_draw T.bd__law_draw .nil pass0 (pa_cons (pv 0) (pa_cons pe_int pa_nil))) pe_int (nomark _)) pa_nil)) (fun _ _ => rfl)))) pss_nil)
      (pss_one (ps_ret (pe_lst (pa_cons (pe_tup (pa_cons pe_str (pa_cons (pv 3) pa_nil))) pa_nil)))))))))))))))))), ?_⟩
    refine ⟨_, rfl, _, rfl, _, _, _, _, rfl, rfl, SqL.of R.at', rfl, st, ca, ns, n, rfl, S, by omega, by omega, fun d H1 d0 d1 S1 f1 => ?_⟩
    have R1 := R.keep S f1
    refine ⟨_, rfl, _, rfl, st, ca, room, lc, ld, ns, n, cells, called, rfl, S1, R1, fun x gx H2 dx S2 f2 => ?_⟩
    have R2 := R1.keep S1 f2
    refine ⟨_, rfl, _, rfl, st, ca, room, lc, ld, ns, n, cells, called, rfl, S2, R2, fun y gy H3 dy S3 f3 => ?_⟩
    have R3 := R2.keep S2 f3
    have dx3 := dx.keep (S2.kt f3)
    refine ⟨_, rfl, st, ca, ns, 5, rfl, S3, by decide, by decide, fun pl H4 l0 l1 S4 f4 => ?_⟩
    have R4 := R3.keep S3 f4
    refine ⟨_, rfl, st, ca, ns, 18, rfl, S4, by decide, by decide, fun ch H5 c0 c1 S5 f5 => ?_⟩
    have R5 := R4.keep S4 f5
    have dx5 := (dx3.keep (S3.kt f4)).keep (S4.kt f5)
    have dy5 := (dy.keep (S3.kt f4)).keep (S4.kt f5)
    have F5 := (((f1.tr f2).tr f3).tr f4).tr f5
    clear dx dy dx3 S1 S2 S3 S4 f1 f2 f3 f4 f5 R1 R2 R3 R4
    have one : ∀ {H6 : Hp} {t L : Addr} {vs : List V} {nm : Str} {ds : List PyData}, StD H6 st ca ns → Frs st H H6 → H6 t = none → upd H6 t (.tup vs) L = none → DTs K H6 vs (.str nm :: ds) → (nm ≠ "jump" ∧ nm ≠ "branch") → Q (.ref L) (upd (upd H6 t (.tup vs)) L (.lst [.ref t])) := fun {H6 t L vs nm ds} S6 F6 nt nL e h => by
      refine q L [.tuple (.str nm :: ds)] _ ⟨_, upd_same, .cons ((lay nt e).keep (KT.new nL)) .nil⟩ (fun D hD => ?_) (by show 1 ≤ 2; decide) ((S6.new nt).ne nL) ((S6.new nt).new nL) ((F6.new nt).new nL)
      rw [List.mem_singleton.mp hD]
      exact insS h
    refine ⟨_, rfl, _, _, rfl, rfl, _, rfl, ite3 (fun c => ?_) (fun k1 => ?_)⟩
    · exact ⟨_, rfl, _, rfl, (by show 3 ≤ sizeLine; decide), fun t nt => ⟨(by show 1 ≤ sizeLine; decide), fun L nL => one S5 F5 nt nL (.cons (.str _) (.cons (.int _) (.cons dx5 .nil))) (by decide +kernel)⟩⟩
    refine ⟨_, rfl, rfl, _, rfl, ite3 (fun c => ?_) (fun k2 => ?_)⟩
    · refine ⟨(by show 2 ≤ sizeLine; decide), fun l nl => ⟨_, rfl, st, ca, ns, 2, rfl, S5.new nl, by decide, by decide, fun v H6 v0 v1 S6 f6 => ?_⟩⟩
      obtain ⟨nm, hnm, hat⟩ := str_at (l := ["neg", "abs"]) v0 (by simpa using v1)
      have dx6 := (dx5.keep (KT.new nl)).keep ((S5.new nl).kt f6)
      exact ⟨_, _, _, _, rfl, rfl, SqL.of (f6 l _ upd_same (S5.ne nl)), hat, _, rfl, _, rfl, _, rfl, (by show 4 ≤ sizeLine; decide), fun t nt => ⟨(by show 1 ≤ sizeLine; decide), fun L nL => one S6 ((F5.new nl).tr f6) nt nL (.cons (.str _) (.cons (.int _) (.cons dx6 (.cons (.int _) .nil)))) ((by decide +kernel : ∀ nm ∈ (["neg", "abs"] : List Str), nm ≠ "jump" ∧ nm ≠ "branch") nm hnm)⟩⟩
    refine ⟨_, rfl, _, _, rfl, rfl, _, rfl, ite3 (fun c => ?_) (fun k3 => ?_)⟩
    · refine ⟨(by show 6 ≤ sizeLine; decide), fun l nl => ⟨_, rfl, st, ca, ns, 6, rfl, S5.new nl, by decide, by decide, fun v H6 v0 v1 S6 f6 => ?_⟩⟩
      obtain ⟨nm, hnm, hat⟩ := str_at (l := ["add", "sub", "mul", "div", "mod", "rem"]) v0 (by simpa using v1)
      have dx6 := (dx5.keep (KT.new nl)).keep ((S5.new nl).kt f6)
      have dy6 := (dy5.keep (KT.new nl)).keep ((S5.new nl).kt f6)
      exact ⟨_, _, _, _, rfl, rfl, SqL.of (f6 l _ upd_same (S5.ne nl)), hat, _, rfl, _, rfl, _, rfl, _, rfl, (by show 5 ≤ sizeLine; decide), fun t nt => ⟨(by show 1 ≤ sizeLine; decide), fun L nL => one S6 ((F5.new nl).tr f6) nt nL (.cons (.str _) (.cons (.int _) (.cons dx6 (.cons dy6 (.cons (.int _) .nil))))) ((by decide +kernel : ∀ nm ∈ (["add", "sub", "mul", "div", "mod", "rem"] : List Str), nm ≠ "jump" ∧ nm ≠ "branch") nm hnm)⟩⟩
    refine ⟨_, rfl, rfl, _, rfl, ite3 (fun c => ?_) (fun k4 => ?_)⟩
    · refine ⟨(by show 2 ≤ sizeLine; decide), fun l nl => ⟨_, rfl, st, ca, ns, 2, rfl, S5.new nl, by decide, by decide, fun v H6 v0 v1 S6 f6 => ?_⟩⟩
      obtain ⟨nm, hnm, hat⟩ := str_at (l := ["less", "equal"]) v0 (by simpa using v1)
      have dx6 := (dx5.keep (KT.new nl)).keep ((S5.new nl).kt f6)
      have dy6 := (dy5.keep (KT.new nl)).keep ((S5.new nl).kt f6)
      exact ⟨_, _, _, _, rfl, rfl, SqL.of (f6 l _ upd_same (S5.ne nl)), hat, _, rfl, _, rfl, _, rfl, (by show 4 ≤ sizeLine; decide), fun t nt => ⟨(by show 1 ≤ sizeLine; decide), fun L nL => one S6 ((F5.new nl).tr f6) nt nL (.cons (.str _) (.cons (.int _) (.cons dx6 (.cons dy6 .nil)))) ((by decide +kernel : ∀ nm ∈ (["less", "equal"] : List Str), nm ≠ "jump" ∧ nm ≠ "branch") nm hnm)⟩⟩
    refine ⟨_, rfl, rfl, _, rfl, ite3 (fun c => ?_) (fun k5 => ?_)⟩
    · refine ⟨_, rfl, st, ca, ns, rfl, S5, fun w1 H6 S6 f6 => ⟨_, rfl, st, ca, ns, rfl, S6, fun w2 H7 S7 f7 => ⟨(by show 2 ≤ sizeLine; decide), fun l nl => ⟨l, [w1, w2], rfl, SqL.of upd_same, (by show 2 < 64; decide), fun ns' pp pm ris np => ?_⟩⟩⟩⟩
      have hlen := pm.length_eq
      obtain ⟨e1, e2, rfl⟩ : ∃ e1 e2, ns' = [e1, e2] := by
        match ns', hlen with
        | [e1, e2], _ => exact ⟨e1, e2, rfl⟩
      have S8 := (S7.new nl).new np (o := .lst ([e1, e2].map V.int))
      have F8 := (((F5.tr f6).tr f7).new nl).new np (o := .lst ([e1, e2].map V.int))
      have dx8 := dx5.keep (((S5.kt f6).tr (S6.kt f7)).tr ((KT.new nl).tr (KT.new np (o := .lst ([e1, e2].map V.int)))))
      have hp8 : upd (upd H7 l (.lst [.int w1, .int w2])) pp (.lst ([e1, e2].map V.int)) pp = some (.lst [.int e1, .int e2]) := upd_same
      have nps := (S7.new nl).ne np
      have npc := (S7.new nl).neC np
      have nH : H pp = none := by
        by_cases e : H pp = none
        · exact e
        · obtain ⟨u, hu⟩ := Option.ne_none_iff_exists'.mp e
          have := (((F5.tr f6).tr f7).new nl (o := .lst [.int w1, .int w2])) _ _ hu nps
          rw [this] at np; cases np
      generalize upd (upd H7 l (.lst [.int w1, .int w2])) pp (.lst ([e1, e2].map V.int)) = H8 at S8 F8 dx8 hp8 ⊢
      refine ⟨_, rfl, _, _, _, _, rfl, rfl, SqL.of hp8, rfl, _, rfl, (by show 2 ≤ sizeLine; decide), fun l2 nl2 => ⟨_, rfl, st, ca, ns, 2, rfl, S8.new nl2, by decide, by decide, fun v H9 v0 v1 S9 f9 => ?_⟩⟩
      obtain ⟨g1, hg1⟩ : ∃ g1, atI [V.int e1, V.int (-2147483648)] v = some (.int g1) := by
        obtain ⟨u, hu, e⟩ := two_at (x := V.int e1) (y := V.int (-2147483648)) v0 v1
        rcases hu with rfl | rfl
        · exact ⟨_, e⟩
        · exact ⟨_, e⟩
      have npl2 : pp ≠ l2 := ne_of_none hp8 nl2
      have hp9 := f9 pp _ (by rw [upd_ne npl2]; exact hp8) nps
      refine ⟨_, _, _, _, rfl, rfl, SqL.of (f9 l2 _ upd_same (S8.ne nl2)), hg1, _, rfl, pp, _, _, 0, rfl, rfl, hp9, rfl, ?_⟩
      have S10 := S9.upd (o := .lst [.int g1, .int e2]) nps npc
      have F10 := ((F8.new nl2).tr f9).upN (o := .lst [.int g1, .int e2]) nH
      have dx10 := (dx8.keep (KT.new nl2)).keep (((S8.new nl2).kt f9).tr (KT.put (o := .lst [.int g1, .int e2]) hp9))
      have hp10 : upd H9 pp (.lst [.int g1, .int e2]) pp = some (.lst [.int g1, .int e2]) := upd_same
      refine ⟨_, rfl, _, _, _, _, rfl, rfl, SqL.of hp10, rfl, (by show 2 ≤ sizeLine; decide), fun l3 nl3 => ⟨_, rfl, st, ca, ns, 2, rfl, S10.new nl3, by decide, by decide, fun v' H11 v0' v1' S11 f11 => ?_⟩⟩
      obtain ⟨g2, hg2⟩ : ∃ g2, atI [V.int e2, V.int 2147483647] v' = some (.int g2) := by
        obtain ⟨u, hu, e⟩ := two_at (x := V.int e2) (y := V.int 2147483647) v0' v1'
        rcases hu with rfl | rfl
        · exact ⟨_, e⟩
        · exact ⟨_, e⟩
      have npl3 : pp ≠ l3 := ne_of_none hp10 nl3
      have hp11 := f11 pp _ (by rw [upd_ne npl3]; exact hp10) nps
      refine ⟨_, _, _, _, rfl, rfl, SqL.of (f11 l3 _ upd_same (S10.ne nl3)), hg2, _, rfl, pp, _, _, 1, rfl, rfl, hp11, rfl, ?_⟩
      have S12 := S11.upd (o := .lst [.int g1, .int g2]) nps npc
      have F12 := ((F10.new nl3).tr f11).upN (o := .lst [.int g1, .int g2]) nH
      have dx12 := (dx10.keep (KT.new nl3)).keep (((S10.new nl3).kt f11).tr (KT.put (o := .lst [.int g1, .int g2]) hp11))
      exact ⟨_, rfl, _, rfl, _, _, _, _, rfl, rfl, SqL.of upd_same, rfl, _, rfl, _, _, _, _, rfl, rfl, SqL.of upd_same, rfl, _, rfl, (by show 5 ≤ sizeLine; decide), fun t nt => ⟨(by show 1 ≤ sizeLine; decide), fun L nL => one S12 F12 nt nL (.cons (.str _) (.cons dx12 (.cons (.int _) (.cons (.int _) (.cons (.int _) .nil))))) (by decide +kernel)⟩⟩
    have two : ∀ {H6 : Hp} {t1 l1 t2 l2 l3 L : Addr}, True := fun {_ _ _ _ _ _ _} => trivial
    have hch : ¬ ch < 3 ∧ ch ≠ 3 ∧ ¬ ch < 8 ∧ ch ≠ 8 ∧ ch ≠ 9 := ⟨of_decide_eq_false k1, int_dec' k2, of_decide_eq_false k3, int_dec' k4, int_dec' k5⟩
    clear k1 k2 k3 k4 k5
    refine' twice (fun rest => ?main) ?restp
    case main =>
      refine ⟨_, rfl, _, _, rfl, rfl, _, rfl, ite3 (fun c => ?_) (fun c => iteF ?_)⟩
      · refine ⟨_, rfl, _, _, _, _, rfl, rfl, SqL.of R5.at', rfl, lc, cells, rfl, SqL.of R5.cl, _, _, rfl, rfl, _, rfl, ite3 (fun c2 => ?_) (fun c2 => ?_)⟩
        · have hc12 : ch < 12 := of_decide_eq_true c
          refine ⟨_, rfl, _, rfl, st, ca, room, lc, ld, ns, n, cells, called, rfl, S5, R5, sum_pos (of_decide_eq_true c2), fun pb lb bs hh ce cn u g H6 hpb hlb hbo hbl nlb du S6 f6 => ?_⟩
          refine ⟨pb, _, rfl, hpb, rfl, _, _, rfl, _, _, rfl, _, _, rfl, _, _, rfl, _, _, rfl, rfl, ?_⟩
          have dy6 := dy5.keep (S5.kt f6)
          refine ⟨_, rfl, ⟨_, rfl, _, rfl, _, rfl, _, rfl, _, rfl, (by show 6 ≤ sizeLine; decide), fun t1 n1 => ⟨(by show 1 ≤ sizeLine; decide), fun l1 m1 => ?_⟩⟩⟩
          refine ⟨_, rfl, _, rfl, _, rfl, _, rfl, _, rfl, (by show 6 ≤ sizeLine; decide), fun t2 n2 => ⟨(by show 1 ≤ sizeLine; decide), fun l2 m2 => ⟨(by show 2 ≤ sizeLine; decide), fun l3 m3 => ?_⟩⟩⟩
          refine ⟨_, rfl, _, _, rfl, rfl, ?_⟩
          have e1 : DT K (upd H6 t1 (.tup [.str "load", .int d, .int hh, .int ce, .int cn, u])) (.ref t1) (.tuple [.str "load", .int d, .int hh, .int ce, .int cn, opD g]) := lay n1 (.cons (.str _) (.cons (.int _) (.cons (.int _) (.cons (.int _) (.cons (.int _) (.cons du .nil))))))
          have kA : KT K H6 (upd (upd H6 t1 (.tup [.str "load", .int d, .int hh, .int ce, .int cn, u])) l1 (.lst [.ref t1])) := (KT.new n1).tr (KT.new m1)
          have e2 := lay n2 (.cons (.str "store") (.cons (.int hh) (.cons (.int ce) (.cons (.int cn) (.cons (du.keep kA) (.cons (dy6.keep kA) .nil))))))
          have sAll := sN (sN (sN (sN (sN (Same.refl H6) n1) m1) n2) m2) m3 (o := .lst [.ref l1, .ref l2])
          have hl1 := sN (sN (sN (Same.refl _) n2) m2) m3 (o := .lst [.ref l1, .ref l2]) _ _ (upd_same (H := upd H6 t1 (.tup [.str "load", .int d, .int hh, .int ce, .int cn, u])) (a := l1) (o := .lst [.ref t1]))
          have S7 := S6.same sAll
          have F7 := ((((((F5.tr f6).new n1).new m1).new n2).new m2).new m3 (o := .lst [.ref l1, .ref l2]))
          have hlb7 := hlb.keep S6 ((((((Frs.refl).new n1).new m1).new n2).new m2).new m3 (o := .lst [.ref l1, .ref l2])) nlb
          obtain ⟨bus, hbus, dbus⟩ := hlb7
          have hbul := dbus.len
          have fin2 : ∀ {l : Addr} {t : Addr} {nm : Str} {ds : List PyData} {L : Addr} {H8 : Hp}, True := fun {_ _ _ _ _ _} => trivial
          have h10 : ch = 10 ∨ ch = 11 := by omega
          rcases h10 with e | e
          · subst e
            refine ⟨_, _, _, .ref l1, rfl, rfl, SqL.of upd_same, rfl, ?_⟩
            refine ⟨lb, l1, bus, [.ref t1], rfl, rfl, hbus, hl1, (by simp; omega), fun L nL => ?_⟩
            refine q L (bs ++ [_]) _ ⟨_, upd_same, (dbus.app (.cons (e1.keep ((((KT.new m1).tr (KT.new n2)).tr (KT.new m2)).tr (KT.new m3 (o := .lst [.ref l1, .ref l2])))) .nil)).keep (KT.new nL)⟩ (fun D hD => ?_) (by simp; omega) (S7.ne nL) (S7.new nL) (F7.new nL)
            rcases List.mem_append.mp hD with h | h
            · exact hbo D h
            · rw [List.mem_singleton.mp h]; exact insS (by decide +kernel)
          · subst e
            have hl2 := sN (Same.refl _) m3 (o := .lst [.ref l1, .ref l2]) _ _ upd_same
            refine ⟨_, _, _, .ref l2, rfl, rfl, SqL.of upd_same, rfl, ?_⟩
            refine ⟨lb, l2, bus, [.ref t2], rfl, rfl, hbus, hl2, (by simp; omega), fun L nL => ?_⟩
            refine q L (bs ++ [_]) _ ⟨_, upd_same, (dbus.app (.cons (e2.keep ((KT.new m2).tr (KT.new m3 (o := .lst [.ref l1, .ref l2])))) .nil)).keep (KT.new nL)⟩ (fun D hD => ?_) (by simp; omega) (S7.ne nL) (S7.new nL) (F7.new nL)
            rcases List.mem_append.mp hD with h | h
            · exact hbo D h
            · rw [List.mem_singleton.mp h]; exact insS (by decide +kernel)
        · exact rest.r
      · exact rest.r
    case restp =>
      have hn2 := R.hn
      refine' twice (fun rest => ?main) ?restp
      case main =>
        refine ⟨_, rfl, _, _, rfl, rfl, _, rfl, ite3 (fun c => ?_) (fun c => iteF ?_)⟩
        · obtain ⟨xd, hxd, dxd⟩ := R5.cd
          have hxl := dxd.len
          have hcl := R5.l2
          simp at hxl
          refine ⟨_, rfl, _, _, _, _, rfl, rfl, SqL.of R5.at', rfl, _, _, rfl, .inl (SqL.of hxd), _, _, rfl, rfl, _, rfl, ite3 (fun c2 => ?_) (fun c2 => ?_)⟩
          · have hpos : 0 < xd.length := by
              have := of_decide_eq_true c2
              omega
            refine ⟨_, rfl, _, _, _, _, rfl, rfl, SqL.of R5.at', rfl, _, rfl, _, rfl, _, _, _, _, rfl, rfl, SqL.of R5.at', rfl, ld, _, rfl, .inl (SqL.of hxd), st, ca, ns, (xd.length : Int), by simp, S5, by omega, by omega, fun v H6 v0 v1 S6 f6 => ?_⟩
            have hv : v.toNat < xd.length := by omega
            have R6 := R5.keep S5 f6
            obtain ⟨dd, edd, ddd⟩ := dxd.at (List.getElem?_eq_getElem hv)
            rw [List.getElem?_map] at edd
            obtain ⟨r, er, rfl⟩ := Option.map_eq_some_iff.mp edd
            obtain ⟨hr4, g0, g1, g2, g3⟩ := R.hd r (List.mem_of_getElem? er)
            have hat : atI xd v = some xd[v.toNat] := by
              have := atI_nat (j := v.toNat) (xs := xd) (v := xd[v.toNat]) (List.getElem?_eq_getElem hv)
              rwa [show ((v.toNat : Nat) : Int) = v by omega] at this
            obtain ⟨pr, ys, ey, hys, dys⟩ := (ddd.keep (S5.kt f6)).ts
            obtain ⟨ru, rh, rg, rr, rfl⟩ : ∃ a b c d, r = [a, b, c, d] := by
              match r, hr4 with
              | [a, b, c, d], _ => exact ⟨a, b, c, d, rfl⟩
            obtain rfl := dys.ints
            refine ⟨_, _, _, _, rfl, rfl, SqL.of (f6 _ _ hxd R5.n3), hat, pr, _, ey, hys, rfl, _, _, rfl, _, _, rfl, _, _, rfl, _, _, rfl, rfl, ?_⟩
            have g0' : 0 ≤ rg := g0
            have g1' : rg ≤ 6 := g1
            have g2' : 0 ≤ rr := g2
            have g3' : rr ≤ 6 := g3
            refine ⟨_, rfl, _, rfl, by omega, by omega, fun D nD => ?_⟩
            have hDs := S6.ne nD
            refine lc_range (lo := 0) (n := rg.toNat) (fun i H' => ∃ us gs, H' D = some (.lst us) ∧ DTs K H' us (gs.map opD) ∧ gs.length = i ∧ StD H' st ca ns ∧ RoomAt K H' st room lc ld n cells called ∧ Frs st H6 H') ⟨[], [], upd_same, .nil, rfl, S6.new nD, R6.keep S6 (Frs.refl.new nD), Frs.refl.new nD⟩ ?_ ?_
            · rintro i H' hi ⟨us, gs, hD, hus, hgl, S7, R7, f7⟩
              have hul := hus.len
              refine ⟨rfl, ?_⟩
              refine ⟨_, rfl, _, rfl, st, ca, room, lc, ld, ns, n, cells, called, rfl, S7, R7, fun u g H8 du S8 f8 => ?_⟩
              have hD8 := f8 _ _ hD hDs
              have hDc : D ≠ ca := S6.neC nD
              refine ⟨us, hD8, (by simp at hul; omega), us ++ [u], gs ++ [g], upd_same, ?_, by simp [hgl], S8.upd hDs hDc, (R6.keep S6 ((f7.tr f8).upN nD)), (f7.tr f8).upN nD⟩
              rw [List.map_append]
              exact ((hus.keep (S7.kt f8)).app (.cons du .nil)).keep (KT.put hD8)
            rintro H' ⟨us, gs, hD, hus, hgl, S7, R7, f7⟩
            refine ⟨D, us, rfl, .inl ⟨SqL.of hD, fun pv npv => ?_⟩⟩
            have hv7 := lay npv hus
            have S8 := S7.new npv (o := .tup us)
            have f8 := (f6.tr f7).new npv (o := .tup us)
            have R8 := R5.keep S5 f8
            have dx8 := dx5.keep (S5.kt f8)
            refine ⟨_, rfl, _, rfl, _, rfl, _, rfl, _, rfl, by omega, by omega, fun D2 nD2 => ?_⟩
            refine lc_range (lo := 0) (n := rr.toNat) (fun i H'' => ∃ js : List Int, H'' D2 = some (.lst (js.map V.int)) ∧ js.length = i ∧ Same (upd H' pv (.tup us)) H'') ⟨[], upd_same, rfl, sN (Same.refl _) nD2⟩ ?_ ?_
            · rintro i H'' hi ⟨js, hD2, hjl, ss⟩
              refine ⟨rfl, ?_⟩
              refine ⟨_, rfl, _, rfl, _, _, rfl, rfl, .inl ⟨_, rfl, _, rfl, _, _, _, _, rfl, rfl, SqL.of (ss _ _ R8.at'), rfl, _, _, rfl, rfl, (by show 0 < n; omega), ?_⟩⟩
              exact ⟨_, hD2, (by simp; omega), js ++ [_], by rw [upd_same, List.map_append]; rfl, by simp [hjl], sUpd ss nD2⟩
            rintro H'' ⟨js, hD2, hjl, ss⟩
            refine ⟨D2, js.map V.int, rfl, .inl ⟨SqL.of hD2, fun pw npw => ?_⟩⟩
            have s9 := sN ss npw (o := .tup (js.map V.int))
            have hw := lay npw (dts_ints (K := K) (H := H'') js)
            exact ⟨_, rfl, (by show 6 ≤ sizeLine; decide), fun t nt => ⟨(by show 1 ≤ sizeLine; decide), fun L nL => one (S8.same s9) (F5.tr (f8.tr (Frs.of s9))) nt nL (.cons (.str _) (.cons (.int _) (.cons (.int _) (.cons (hv7.keep (KT.same s9)) (.cons hw (.cons (.int _) .nil)))))) (by decide +kernel)⟩⟩
          · exact rest.r
        · exact rest.r
      case restp =>
        refine ⟨_, rfl, rfl, _, rfl, ite3 (fun c => ?_) (fun k6 => ?_)⟩
        · exact ⟨_, rfl, _, rfl, (by show 3 ≤ sizeLine; decide), fun t nt => ⟨(by show 1 ≤ sizeLine; decide), fun L nL => one S5 F5 nt nL (.cons (.str _) (.cons (.int _) (.cons (.int _) .nil))) (by decide +kernel)⟩⟩
        refine ⟨_, rfl, rfl, _, rfl, ite3 (fun c => ?_) (fun k7 => ?_)⟩
        · refine ⟨(by show 1 ≤ sizeLine; decide), fun t1 n1 => ⟨(by show 1 ≤ sizeLine; decide), fun l1 m1 => ?_⟩⟩
          have S6 := (S5.new n1 (o := .tup [.str "tick"])).new m1 (o := .lst [.ref t1])
          refine ⟨_, rfl, st, ca, ns, 5, rfl, S6, by decide, by decide, fun v H7 v0 v1 S7 f7 => ⟨_, rfl, (by show 3 ≤ sizeLine; decide), fun t2 n2 => ⟨(by show 1 ≤ sizeLine; decide), fun l2 m2 => ⟨(by show 2 ≤ sizeLine; decide), fun l3 m3 => ?_⟩⟩⟩⟩
          have S10 := ((S7.new n2 (o := .tup [.str "raise", .int v, .int pl])).new m2 (o := .lst [.ref t2])).new m3 (o := .lst [.ref l1, .ref l2])
          have F10 := ((((((F5.new n1).new m1).tr f7).new n2 (o := .tup [.str "raise", .int v, .int pl])).new m2 (o := .lst [.ref t2])).new m3 (o := .lst [.ref l1, .ref l2]))
          refine ⟨_, rfl, st, ca, ns, 4, rfl, S10, by decide, by decide, fun v' H11 v0' v1' S11 f11 => ⟨rfl, .inr ⟨_, rfl, ?_⟩⟩⟩
          have hl1a := f7 _ _ (upd_same (H := upd H5 t1 (.tup [.str "tick"])) (a := l1) (o := .lst [.ref t1])) ((S5.new n1).ne m1)
          have hl1 := f11 _ _ (sN (sN (sN (Same.refl _) n2 (o := .tup [.str "raise", .int v, .int pl])) m2 (o := .lst [.ref t2])) m3 (o := .lst [.ref l1, .ref l2]) _ _ hl1a) ((S5.new n1).ne m1)
          have hl2 := f11 _ _ (sN (Same.refl _) m3 (o := .lst [.ref l1, .ref l2]) _ _ upd_same) ((S7.new n2).ne m2)
          have hl3 := f11 _ _ upd_same (((S7.new n2 (o := .tup [.str "raise", .int v, .int pl])).new m2 (o := .lst [.ref t2])).ne m3)
          have e1 := (((lay (K := K) n1 (.cons (.str "tick") .nil)).keep (KT.new m1)).keep (S6.kt f7)).keep ((((KT.new n2 (o := .tup [.str "raise", .int v, .int pl])).tr (KT.new m2 (o := .lst [.ref t2]))).tr (KT.new m3 (o := .lst [.ref l1, .ref l2]))).tr (S10.kt f11))
          have e2 := (lay (K := K) n2 (.cons (.str "raise") (.cons (.int v) (.cons (.int pl) .nil)))).keep (((KT.new m2 (o := .lst [.ref t2])).tr (KT.new m3 (o := .lst [.ref l1, .ref l2]))).tr (S10.kt f11))
          cases cc : decide (V.int v' = V.int 0) with
          | false =>
            refine ⟨_, _, _, .ref l1, rfl, rfl, SqL.of hl3, rfl, ?_⟩
            exact q l1 [_] _ ⟨_, hl1, .cons e1 .nil⟩ (fun D hD => by rw [List.mem_singleton.mp hD]; exact insS (by decide +kernel)) (by show 1 ≤ 2; decide) ((S5.new n1).ne m1) S11 (F10.tr f11)
          | true =>
            refine ⟨_, _, _, .ref l2, rfl, rfl, SqL.of hl3, rfl, ?_⟩
            exact q l2 [_] _ ⟨_, hl2, .cons e2 .nil⟩ (fun D hD => by rw [List.mem_singleton.mp hD]; exact insS (by decide +kernel)) (by show 1 ≤ 2; decide) ((S7.new n2).ne m2) S11 (F10.tr f11)
        · exact ⟨_, rfl, (by show 2 ≤ sizeLine; decide), fun t nt => ⟨(by show 1 ≤ sizeLine; decide), fun L nL => one S5 F5 nt nL (.cons (.str _) (.cons dx5 .nil)) (by decide +kernel)⟩⟩
end

/-! ### pieces -/
structure PieceAt (K : PySem.W.Frag) (H : Hp) (st : Addr) (u : V) (cs : List PyData) (rs : List (List Int)) : Prop where
  at' : ∃ pa lc lr us ws, u = .ref pa ∧ SqT K H pa [.ref lc, .ref lr] ∧ H lc = some (.lst us) ∧ H lr = some (.lst ws) ∧ DTs K H us cs ∧ DTs K H ws (rs.map regD) ∧ lc ≠ st ∧ lr ≠ st
theorem PieceAt.keep {K : PySem.W.Frag} {H H' : Hp} {st ca : Addr} {ns : List Int} {u : V} {cs : List PyData} {rs : List (List Int)} (h : PieceAt K H st u cs rs) (S : StD H st ca ns) (f : Frs st H H') : PieceAt K H' st u cs rs := by
  obtain ⟨pa, lc, lr, us, ws, e, hp, h1, h2, d1, d2, n1, n2⟩ := h.at'
  exact ⟨pa, lc, lr, us, ws, e, S.kt f _ _ hp, f _ _ h1 n1, f _ _ h2 n2, d1.keep (S.kt f), d2.keep (S.kt f), n1, n2⟩
structure PieceOk (cs : List PyData) (rs : List (List Int)) (b : Nat) : Prop where
  i : ∀ D ∈ cs, InsOk D
  r : ∀ r ∈ rs, RegOk cs.length r
  l1 : cs.length ≤ b
  l2 : rs.length ≤ b
theorem PieceOk.mono {cs : List PyData} {rs : List (List Int)} {b b' : Nat} (h : PieceOk cs rs b) (le : b ≤ b') : PieceOk cs rs b' := ⟨h.i, h.r, Nat.le_trans h.l1 le, Nat.le_trans h.l2 le⟩
def shR (m : Nat) (r : List Int) : List Int := [r.getD 0 0 + m, r.getD 1 0 + m, r.getD 2 0 + m, r.getD 3 0, r.getD 4 0]
theorem shR_ok {m n : Nat} {r : List Int} (h : RegOk n r) : RegOk (m + n) (shR m r) := by
  obtain ⟨_, a, b, c, d⟩ := h
  refine ⟨rfl, ?_, ?_, ?_, ?_⟩
  · show 0 ≤ r.getD 0 0 + (m : Int); omega
  · show r.getD 0 0 + (m : Int) ≤ ((m + n : Nat) : Int); omega
  · show 0 ≤ r.getD 1 0 + (m : Int); omega
  · show r.getD 1 0 + (m : Int) ≤ ((m + n : Nat) : Int); omega
theorem RegOk.up {n m : Nat} {r : List Int} (h : RegOk n r) (le : n ≤ m) : RegOk m r := by
  obtain ⟨e, a, b, c, d⟩ := h
  exact ⟨e, a, by omega, c, by omega⟩
theorem PW.join {lo hi lo1 hi1 lo2 hi2 : Int} {c1 c2 : List PyData} {r1 r2 : List (List Int)} (h1 : PW lo1 hi1 c1 r1) (h2 : PW lo2 hi2 c2 r2) (a : lo1 ≤ lo) (b : hi1 ≤ (c2.length : Int) + hi) (c : lo2 ≤ (c1.length : Int) + lo) (d : hi2 ≤ hi) : PW lo hi (c1 ++ c2) (r1 ++ r2.map (shR c1.length)) := by
  refine ⟨fun i D e => ?_, fun r hr => ?_⟩
  · rw [List.length_append]
    by_cases l : i < c1.length
    · rw [List.getElem?_append_left l] at e
      exact (h1.c i D e).mono (by omega) (by omega)
    · rw [List.getElem?_append_right (by omega)] at e
      have := (h2.c _ D e).sh (m := c1.length)
      rw [show c1.length + (i - c1.length) = i by omega] at this
      exact this.mono (by omega) (by omega)
  · rw [List.length_append]
    rcases List.mem_append.mp hr with h | h
    · have := h1.e r h
      exact ⟨this.1, by omega⟩
    · obtain ⟨r', hr', rfl⟩ := List.mem_map.mp h
      have := h2.e r' hr'
      refine ⟨?_, ?_⟩
      · show 0 ≤ r'.getD 2 0 + (c1.length : Int); omega
      · show r'.getD 2 0 + (c1.length : Int) ≤ _; omega
theorem PW.one {D : PyData} {lo hi : Int} (h : InsW (-lo) (1 + hi) 0 D) : PW lo hi [D] [] := ⟨fun i D' e => by
  cases i with
  | zero => obtain rfl : D = D' := by simpa using e
            exact h
  | succ i => simp at e, fun r h => nomatch h⟩
theorem PieceOk.join {c1 c2 : List PyData} {r1 r2 : List (List Int)} {b1 b2 : Nat} (h1 : PieceOk c1 r1 b1) (h2 : PieceOk c2 r2 b2) : PieceOk (c1 ++ c2) (r1 ++ r2.map (shR c1.length)) (b1 + b2) := by
  refine ⟨fun D hD => ?_, fun r hr => ?_, ?_, ?_⟩
  · rcases List.mem_append.mp hD with h | h
    · exact h1.i D h
    · exact h2.i D h
  · rw [List.length_append]
    rcases List.mem_append.mp hr with h | h
    · exact (h1.r r h).up (by omega)
    · obtain ⟨r', hr', rfl⟩ := List.mem_map.mp h
      exact shR_ok (h2.r r' hr')
  · have := h1.l1; have := h2.l1; rw [List.length_append]; omega
  · have := h1.l2; have := h2.l2; rw [List.length_append, List.length_map]; omega
theorem wipe_in {σ : L2.St} {j : Nat} : ∀ {vs : List Nat}, j ∈ vs → (wipe σ vs)[j]? = if j < σ.length then some none else none
  | [], h => nomatch h
  | v :: vs, h => by
    show ((wipe σ vs).set v none)[j]? = _
    by_cases e : v = j
    · subst e
      by_cases l : v < σ.length
      · rw [List.getElem?_set_self (by rw [wipe_length]; exact l), if_pos l]
      · rw [if_neg l, List.getElem?_eq_none_iff.mpr (by rw [List.length_set, wipe_length]; omega)]
    · rw [List.getElem?_set_ne e]
      exact wipe_in (by
        rcases List.mem_cons.mp h with q | q
        · exact absurd q.symm e
        · exact q)
theorem wipe_set {σ : L2.St} {i : Nat} {v : Option V} {vs : List Nat} (h : i ∈ vs) : wipe (σ.set i v) vs = wipe σ vs := by
  refine List.ext_getElem? fun j => ?_
  by_cases c : j ∈ vs
  · rw [wipe_in c, wipe_in c, List.length_set]
  · rw [wipe_out c, wipe_out c, List.getElem?_set_ne (fun (e : i = j) => c (by rw [← e]; exact h))]
theorem wipe_wipe {σ : L2.St} {vs : List Nat} : wipe (wipe σ vs) vs = wipe σ vs := by
  refine List.ext_getElem? fun j => ?_
  by_cases c : j ∈ vs
  · rw [wipe_in c, wipe_in c, wipe_length]
  · rw [wipe_out c]
def spJoined (K : PySem.W.Frag) : Sp := fun vs H Q _ => ∃ (st : Addr) (u1 u2 : V) (c1 c2 : List PyData) (r1 r2 : List (List Int)), vs = [u1, u2] ∧ PieceAt K H st u1 c1 r1 ∧ PieceAt K H st u2 c2 r2 ∧ (∀ r ∈ r2, r.length = 5) ∧ (∃ o, H st = some o) ∧ c1.length + c2.length ≤ 100000 ∧ r1.length + r2.length ≤ 100000 ∧
  ∀ u H', PieceAt K H' st u (c1 ++ c2) (r1 ++ r2.map (shR c1.length)) → Same H H' → Q u H'
section
variable {P : Program} {w : World} {K : PySem.W.Frag} {mg : Str → Option Value} {base : Heap} {a : Ad}
theorem ok_law_joined (T : Txt K mg a) : FnOk P w K mg base CX0 1 a.f_law_joined a.d_law_joined ["first", "second"] (spJoined K) := by
  refine T.F__law_joined.ok sc_law_joined (fun vs H Q E h => ?_) (fun cdv A outer s H vs Q E hr h => ?_)
  · obtain ⟨_, _, _, _, _, _, _, rfl, _⟩ := h; rfl
  · obtain ⟨st, u1, u2, c1, c2, r1, r2, rfl, P1, P2, h5, ⟨ost, hst⟩, hl, hl2, q⟩ := h
    have hz := sizeLine_eq
    obtain ⟨p1, a1, b1, x1, y1, rfl, hp1, ha1, hb1, dx1, dy1, na1, nb1⟩ := P1.at'
    obtain ⟨p2, a2, b2, x2, y2, rfl, hp2, ha2, hb2, dx2, dy2, na2, nb2⟩ := P2.at'
    have lx1 := dx1.len
    have ly1 := dy1.len
    have lx2 := dx2.len
    have ly2 := dy2.len
    rw [List.length_map] at ly1 ly2
    refine ⟨_, (pss_cons (ps_set (i := 2) sc_law_joined.nd rfl (Or.inr rfl) (pe_callB call_len_seq (by rfl) T.b_len (by decide +kernel) (pa_cons (pe_ix ix_tup (pv 0) pe_int (fun _ _ => rfl)) pa_nil)))
      (pss_cons (ps_setLc (i := 3) (own := [("a", 4), ("b", 5), ("c", 6), ("d", 7), ("e", 8)]) (g := gTup K 5 (gCons (gName 4) (gCons (gName 5) (gCons (gName 6) (gCons (gName 7) (gCons (gName 8) (gNil))))))) rfl sc_law_joined.nd rfl rfl (sw_true rfl rfl rfl (by decide +kernel)) (pi_list (pe_ix ix_tup (pv 1) pe_int (fun _ _ => rfl))) (blkOk_by (own := [("a", 4), ("b", 5), ("c", 6), ("d", 7), ("e", 8)]) (N := ["first", "second", "more", "moved", "a", "b", "c", "d", "e"]) (sc := defScope s_law_joined) (by decide +kernel)) (fun _ _ _ _ _ => pg_tup rfl (pgs_cons (pg_name (i := 4) sc_law_joined.nd rfl (Or.inl rfl)) (pgs_cons (pg_name (i := 5) sc_law_joined.nd rfl (Or.inl rfl)) (pgs_cons (pg_name (i := 6) sc_law_joined.nd rfl (Or.inl rfl)) (pgs_cons (pg_name (i := 7) sc_law_joined.nd rfl (Or.inl rfl)) (pgs_cons (pg_name (i := 8) sc_law_joined.nd rfl (Or.inl rfl)) (pgs_nil))))))) (fun _ _ _ _ _ => pts_nil) (fun _ _ _ _ _ => (pe_tup (pa_cons (pe_op op_add (pv 4) (pv 2)) (pa_cons (pe_op op_add (pv 5) (pv 2)) (pa_cons (pe_op op_add (pv 6) (pv 2)) (pa_cons (pv 7) (pa_cons (pv 8) pa_nil))))))))
      (pss_one (ps_ret (pe_tup (pa_cons (pe_op op_cat (pe_ix ix_tup (pv 0) pe_int (fun _ _ => rfl)) (pe_ix ix_tup (pv 1) pe_int (fun _ _ => rfl))) (pa_cons (pe_op op_cat (pe_ix ix_tup (pv 0) pe_int (fun _ _ => rfl)) (pv 3)) pa_nil))))))), ?_⟩
    refine ⟨_, rfl, _, _, _, _, rfl, rfl, hp1, rfl, _, _, rfl, .inl (SqL.of ha1), ?_⟩
    refine ⟨_, rfl, _, _, _, _, rfl, rfl, hp2, rfl, b2, rfl, ⟨_, SqL.of hb2⟩, fun D nD => ?_⟩
    refine lc_list (K := K) (a := b2) (xs := y2) (fun i H' => Same H H' ∧ ∃ us, H' D = some (.lst us) ∧ DTs K H' us (((r2.take i).map (shR c1.length)).map regD) ∧ us.length = i) ⟨sN (Same.refl H) nD, [], upd_same, .nil, rfl⟩ (fun i H' _ h => SqL.of (h.1 _ _ hb2)) ?_ ?_
    · rintro i x H' hx ⟨ss, us, hD, hus, hul⟩
      have hi : i < y2.length := (List.getElem?_eq_some_iff.mp hx).1
      obtain ⟨d, ed, dx⟩ := dy2.at hx
      rw [List.getElem?_map] at ed
      obtain ⟨r, er, rfl⟩ := Option.map_eq_some_iff.mp ed
      have hr5 := h5 r (List.mem_of_getElem? er)
      obtain ⟨e0, e1, e2, e3, e4, rfl⟩ : ∃ a b c d e, r = [a, b, c, d, e] := by
        match r, hr5 with
        | [a, b, c, d, e], _ => exact ⟨a, b, c, d, e, rfl⟩
      obtain ⟨pr, ys, rfl, hys, dys⟩ := (dx.keep (KT.same ss)).ts
      obtain rfl := dys.ints
      refine ⟨pr, _, rfl, hys, rfl, _, _, rfl, _, _, rfl, _, _, rfl, _, _, rfl, _, _, rfl, rfl, ?_⟩
      refine ⟨by rw [wipe_set (by decide), wipe_set (by decide), wipe_set (by decide), wipe_set (by decide), wipe_set (by decide), wipe_wipe], ?_⟩
      refine ⟨_, rfl, _, rfl, _, _, rfl, rfl, _, rfl, _, rfl, _, _, rfl, rfl, _, rfl, _, rfl, _, _, rfl, rfl, _, rfl, _, rfl, (by show 5 ≤ sizeLine; decide), fun t nt => ?_⟩
      have s2 := sN (Same.refl H') nt (o := .tup [.int (e0 + (x1.length : Nat)), .int (e1 + (x1.length : Nat)), .int (e2 + (x1.length : Nat)), .int e3, .int e4])
      refine ⟨us, s2 _ _ hD, by omega, sUpd (sTr ss s2) nD, us ++ [.ref t], upd_same, ?_, by simp [hul]⟩
      rw [List.take_succ, er, List.map_append, List.map_append]
      have hd : DT K (upd H' t (.tup [.int (e0 + (x1.length : Nat)), .int (e1 + (x1.length : Nat)), .int (e2 + (x1.length : Nat)), .int e3, .int e4])) (.ref t) (regD (shR c1.length [e0, e1, e2, e3, e4])) := by
        rw [← lx1]
        exact lay nt (.cons (.int _) (.cons (.int _) (.cons (.int _) (.cons (.int _) (.cons (.int _) .nil)))))
      exact ((hus.keep (KT.same s2)).app (.cons hd .nil)).keep (KT.put (s2 _ _ hD))
    · rintro H' ⟨ss, us, hD, hus, hul⟩
      rw [ly2, List.take_length] at hus
      refine ⟨_, rfl, _, _, _, _, rfl, rfl, seqT ss hp1, rfl, _, rfl, _, _, _, _, rfl, rfl, seqT ss hp2, rfl, a1, a2, x1, x2, rfl, rfl, ss _ _ ha1, ss _ _ ha2, by omega, fun L1 nL1 => ?_⟩
      have s1 := sN ss nL1 (o := .lst (x1 ++ x2))
      have s1' := sN (Same.refl H') nL1 (o := .lst (x1 ++ x2))
      refine ⟨_, rfl, _, _, _, _, rfl, rfl, seqT s1 hp1, rfl, _, rfl, b1, D, y1, us, rfl, rfl, s1 _ _ hb1, s1' _ _ hD, by omega, fun L2 nL2 => ⟨(by show 2 ≤ sizeLine; decide), fun p np => ?_⟩⟩
      have s2 := sN (Same.refl _) nL2 (o := .lst (y1 ++ us))
      have s3 := sN (Same.refl _) np (o := .tup [.ref L1, .ref L2])
      have sA := sTr (sTr s1 s2) s3
      refine q (.ref p) _ ⟨p, L1, L2, x1 ++ x2, y1 ++ us, rfl, SqT.of upd_same, s3 _ _ (s2 _ _ upd_same), s3 _ _ upd_same, ?_, ?_, fun e => ?_, fun e => ?_⟩ sA
      · exact (dx1.keep (KT.same sA)).app (dx2.keep (KT.same sA))
      · rw [List.map_append]
        exact (dy1.keep (KT.same sA)).app (hus.keep (KT.same (sTr (sTr s1' s2) s3)))
      · rw [e, ss _ _ hst] at nL1; cases nL1
      · rw [e, s1 _ _ hst] at nL2; cases nL2
end

/-! ### parts and pieces within one another -/
def pB : Nat → Nat
  | 0 => 2
  | d + 1 => 2 * (4 * pB d) + 2
def bP (d : Nat) : Nat := 4 * pB d
def spPieceL (K : PySem.W.Frag) (bnd d : Nat) : Sp := fun vs H Q _ => ∃ (st ca room lc ld : Addr) (ns : List Int) (n : Int) (cells : List Int) (called : List (List Int)), vs = [.ref st, .ref room, .int (d : Int)] ∧ StD H st ca ns ∧ RoomAt K H st room lc ld n cells called ∧
  ∀ (u : V) (cs : List PyData) (rs : List (List Int)) (H' : Hp), PieceAt K H' st u cs rs → PieceOk cs rs bnd → PW 0 0 cs rs → StD H' st ca ns → Frs st H H' → Q u H'
def spHandL (K : PySem.W.Frag) (d : Nat) : Sp := fun vs H Q _ => ∃ (st ca room lc ld : Addr) (ns : List Int) (n : Int) (cells : List Int) (called : List (List Int)) (x y : Int), vs = [.ref st, .ref room, .int (d : Int), .int x, .int y] ∧ StD H st ca ns ∧ RoomAt K H st room lc ld n cells called ∧
  ∀ (u : V) (cs : List PyData) (rs : List (List Int)) (H' : Hp), PieceAt K H' st u cs rs → PieceOk cs rs (bP d) → PW 0 0 cs rs → StD H' st ca ns → Frs st H H' → Q u H'
theorem pB_pos : ∀ d, 2 ≤ pB d
  | 0 => Nat.le_refl _
  | d + 1 => by unfold pB; omega
theorem ok_nil : PieceOk [] [] 0 := ⟨(fun D h => nomatch h), (fun r h => nomatch h), Nat.le_refl _, Nat.le_refl _⟩
/-- a piece that is laid: the list l of code, and no region -/
theorem piece_new {K : PySem.W.Frag} {H : Hp} {st ca l e p : Addr} {ns : List Int} {cs : List PyData} (S : StD H st ca ns) (hl : CodeAt K H l cs) (nl : l ≠ st) (ne : H e = none) (np : upd H e (.lst []) p = none) : PieceAt K (upd (upd H e (.lst [])) p (.tup [.ref l, .ref e])) st (.ref p) cs [] := by
  obtain ⟨us, h, d⟩ := hl
  have s := sN (sN (Same.refl H) ne (o := .lst [])) np (o := .tup [.ref l, .ref e])
  exact ⟨p, l, e, us, [], rfl, SqT.of upd_same, s _ _ h, sN (Same.refl _) np _ _ upd_same, d.keep (KT.same s), .nil, nl, S.ne ne⟩
theorem one_ok {D : PyData} (h : InsOk D) : PieceOk [D] [] 1 := ⟨fun D' hD => by rw [List.mem_singleton.mp hD]; exact h, (fun r h => nomatch h), Nat.le_refl _, by decide⟩
theorem insJ {t : Int} {ds : List PyData} : InsOk (.tuple (.str "jump" :: .int t :: ds)) := ⟨"jump", _, rfl, fun _ => ⟨t, rfl⟩, fun e => absurd e (by decide +kernel)⟩
theorem wJ {lo hi t : Int} {ds : List PyData} (a : lo ≤ t) (b : t ≤ hi) : InsW lo hi 0 (.tuple (.str "jump" :: .int t :: ds)) := fun nm ds' e => by
  injection e with e
  injection e with e1 e2
  injection e1 with e1
  subst e1 e2
  exact ⟨fun _ => ⟨t, rfl, by omega, by omega⟩, fun e => absurd e (by decide +kernel)⟩
theorem wB {lo hi t : Int} {x : PyData} {ds : List PyData} (a : lo ≤ t) (b : t ≤ hi) : InsW lo hi 0 (.tuple (.str "branch" :: x :: .int t :: ds)) := fun nm ds' e => by
  injection e with e
  injection e with e1 e2
  injection e1 with e1
  subst e1 e2
  exact ⟨fun e => absurd e (by decide +kernel), fun _ => ⟨t, rfl, by omega, by omega⟩⟩
theorem insB {x : PyData} {t : Int} {ds : List PyData} : InsOk (.tuple (.str "branch" :: x :: .int t :: ds)) := ⟨"branch", _, rfl, fun e => absurd e (by decide +kernel), fun _ => ⟨t, rfl⟩⟩
section
variable {P : Program} {w : World} {K : PySem.W.Frag} {mg : Str → Option Value} {base : Heap} {a : Ad}
theorem ok_handler (T : Txt K mg a) (d k : Nat) (hk : 3 ≤ k) (G : FnOk P w K mg base CX0 k a.f_law_piece a.d_law_piece ["state", "room", "depth"] (spPieceL K (bP d) d)) : FnOk P w K mg base CX0 (k + 1) a.f_law_handler a.d_law_handler ["state", "room", "depth", "number", "place"] (spHandL K d) := by
  have G_law_draw : FnOk P w K mg base CX0 3 _ _ _ _ := ok_law_draw T
  have G_law_piece := G
  have hp := pB_pos d
  refine T.F__law_handler.ok sc_law_handler (fun vs H Q E h => ?_) (fun cdv A outer s H vs Q E hr h => ?_)
  · obtain ⟨_, _, _, _, _, _, _, _, _, _, _, rfl, _⟩ := h; rfl
  · obtain ⟨st, ca, room, lc, ld, ns, n, cells, called, x, y, rfl, S, R, q⟩ := h
    refine ⟨_, (pss_cons (ps_set (i := 5) sc_law_handler.nd rfl (Or.inl rfl) (pe_call G_law_draw (hr.mono (by omega)) rfl T.g__law_draw T.k__law_draw T.bd__law_draw .nil pass0 (pa_cons (pv 0) (pa_cons pe_int pa_nil))))
      (pss_cons (ps_if (pt_cmpR op_eq (pv 5) pe_int (nomark _)) (pss_one (ps_ret (pe_tup (pa_cons (pe_lst (pa_cons (pe_tup (pa_cons pe_str (pa_cons (pe_tup (pa_cons pe_str (pa_cons (pv 3) pa_nil))) pa_nil))) (pa_cons (pe_tup (pa_cons pe_str (pa_cons (pe_tup (pa_cons pe_str (pa_cons (pv 4) pa_nil))) pa_nil))) pa_nil))) (pa_cons (pe_lst pa_nil) pa_nil))))) pss_nil)
      (pss_cons (ps_if (pt_cmpR op_eq (pv 5) pe_int (nomark _)) (pss_one (ps_ret (pe_tup (pa_cons (pe_lst (pa_cons (pe_tup (pa_cons pe_str (pa_cons (pe_tup (pa_cons pe_str (pa_cons (pv 3) pa_nil))) (pa_cons (pe_tup (pa_cons pe_str (pa_cons (pv 4) pa_nil))) pa_nil)))) pa_nil)) (pa_cons (pe_lst pa_nil) pa_nil))))) pss_nil)
      (pss_one (ps_ret (pe_call G_law_piece (hr.mono (by omega)) rfl T.g__law_piece T.k__law_piece T.bd__law_piece .nil pass0 (pa_cons (pv 0) (pa_cons (pv 1) (pa_cons (pv 2) pa_nil))))))))), ?_⟩
    refine ⟨_, rfl, st, ca, ns, 4, rfl, S, by decide, by decide, fun v H1 v0 v1 S1 f1 => ?_⟩
    refine ⟨_, rfl, rfl, _, rfl, ite3 (fun c => ?_) (fun c => ?_)⟩
    · refine ⟨_, rfl, (by show 2 ≤ sizeLine; decide), fun t1 n1 => ⟨(by show 2 ≤ sizeLine; decide), fun t2 n2 => ?_⟩⟩
      refine ⟨_, rfl, (by show 2 ≤ sizeLine; decide), fun t3 n3 => ⟨(by show 2 ≤ sizeLine; decide), fun t4 n4 => ⟨(by show 2 ≤ sizeLine; decide), fun l nl => ⟨by decide, fun e ne => ⟨(by show 2 ≤ sizeLine; decide), fun p np => ?_⟩⟩⟩⟩⟩
      have d1 := lay (K := K) n1 (.cons (.str "reg") (.cons (.int x) .nil))
      have d2 := lay n2 (.cons (.str "put") (.cons d1 .nil))
      have d3 := lay (K := K) n3 (.cons (.str "reg") (.cons (.int y) .nil))
      have d4 := lay n4 (.cons (.str "put") (.cons d3 .nil))
      have s2 := sN (sN (Same.refl H1) n1 (o := .tup [.str "reg", .int x])) n2 (o := .tup [.str "put", .ref t1])
      have s4 := sN (sN (Same.refl _) n3 (o := .tup [.str "reg", .int y])) n4 (o := .tup [.str "put", .ref t3])
      have sl := sN (Same.refl _) nl (o := .lst [.ref t2, .ref t4])
      have S2 := S1.same (sTr (sTr s2 s4) sl)
      have nls := (S1.same (sTr s2 s4)).ne nl
      refine q _ _ [] _ (piece_new S2 ⟨_, upd_same, .cons ((d2.keep (KT.same s4)).keep (KT.same sl)) (.cons (d4.keep (KT.same sl)) .nil)⟩ nls ne np) ⟨fun D hD => ?_, (fun r h => nomatch h), by unfold bP; show 2 ≤ _; omega, Nat.zero_le _⟩ ?_ ((S2.new ne).new np) ?_
      · simp only [List.mem_cons, List.not_mem_nil, or_false] at hD
        rcases hD with e | e <;> rw [e] <;> exact (insS (by decide +kernel)).ok
      · refine PW.no fun D hD => ?_
        simp only [List.mem_cons, List.not_mem_nil, or_false] at hD
        rcases hD with e | e <;> rw [e] <;> exact insS (by decide +kernel)
      · exact ((f1.tr (Frs.of (sTr (sTr s2 s4) sl))).new ne).new np
    refine ⟨_, rfl, rfl, _, rfl, ite3 (fun c => ?_) (fun c => ?_)⟩
    · refine ⟨_, rfl, (by show 2 ≤ sizeLine; decide), fun t1 n1 => ⟨_, rfl, (by show 2 ≤ sizeLine; decide), fun t2 n2 => ⟨(by show 3 ≤ sizeLine; decide), fun t3 n3 => ⟨(by show 1 ≤ sizeLine; decide), fun l nl => ⟨by decide, fun e ne => ⟨(by show 2 ≤ sizeLine; decide), fun p np => ?_⟩⟩⟩⟩⟩⟩
      have d1 := lay (K := K) n1 (.cons (.str "reg") (.cons (.int x) .nil))
      have d2 := lay (K := K) n2 (.cons (.str "reg") (.cons (.int y) .nil))
      have d3 := lay n3 (.cons (.str "again") (.cons (d1.keep (KT.new n2)) (.cons d2 .nil)))
      have s3 := sN (sN (sN (Same.refl H1) n1 (o := .tup [.str "reg", .int x])) n2 (o := .tup [.str "reg", .int y])) n3 (o := .tup [.str "again", .ref t1, .ref t2])
      have sl := sN (Same.refl _) nl (o := .lst [.ref t3])
      have S2 := S1.same (sTr s3 sl)
      have nls := (S1.same s3).ne nl
      exact q _ _ [] _ (piece_new S2 ⟨_, upd_same, .cons (d3.keep (KT.same sl)) .nil⟩ nls ne np) ((one_ok (insS (by decide +kernel)).ok).mono (by unfold bP; omega)) (PW.one (insS (by decide +kernel)).w) ((S2.new ne).new np) (((f1.tr (Frs.of (sTr s3 sl))).new ne).new np)
    · exact ⟨_, rfl, _, rfl, _, rfl, st, ca, room, lc, ld, ns, n, cells, called, rfl, S1, R.keep S f1, fun u cs rs H2 hp ho hw S2 f2 => q u cs rs H2 hp ho hw S2 (f1.tr f2)⟩
theorem ok_piece (T : Txt K mg a) (d k : Nat) (hk : 8 ≤ k) (G : FnOk P w K mg base CX0 k a.f_law_part a.d_law_part ["state", "room", "depth"] (spPieceL K (pB d) d)) (hd : d ≤ 3) : FnOk P w K mg base CX0 (k + 1) a.f_law_piece a.d_law_piece ["state", "room", "depth"] (spPieceL K (bP d) d) := by
  have G_law_draw : FnOk P w K mg base CX0 3 _ _ _ _ := ok_law_draw T
  have G_law_joined : FnOk P w K mg base CX0 1 _ _ _ _ := ok_law_joined T
  have G_law_part := G
  have hb : pB d ≤ 10000 := by
    have : d = 0 ∨ d = 1 ∨ d = 2 ∨ d = 3 := by omega
    rcases this with e | e | e | e <;> subst e <;> decide
  refine T.F__law_piece.ok sc_law_piece (fun vs H Q E h => ?_) (fun cdv A outer s H vs Q E hr h => ?_)
  · obtain ⟨_, _, _, _, _, _, _, _, _, rfl, _⟩ := h; rfl
  · obtain ⟨st, ca, room, lc, ld, ns, n, cells, called, rfl, S, R, q⟩ := h
    refine ⟨_, (pss_cons (ps_set (i := 3) sc_law_piece.nd rfl (Or.inl rfl) (pe_call G_law_part (hr.mono (by omega)) rfl T.g__law_part T.k__law_part T.bd__law_part .nil pass0 (pa_cons (pv 0) (pa_cons (pv 1) (pa_cons (pv 2) pa_nil)))))
      (pss_cons (ps_for PassesOwn.never rfl (pi_range1 rfl T.b_range (pa_cons (pe_op op_mul (pe_call G_law_draw (hr.mono (by omega)) rfl T.g__law_draw T.k__law_draw T.bd__law_draw .nil pass0 (pa_cons (pv 0) (pa_cons pe_int pa_nil))) (pe_callTy call_int1 (by rfl) T.b_int (by decide +kernel) (pa_cons (pe_cmpR op_ge (pe_ix ix_list (pv 0) pe_int (fun _ _ => rfl)) pe_int (nomark _)) pa_nil))) pa_nil)) (pg_name (i := 4) sc_law_piece.nd rfl (Or.inl rfl)) (pss_one (ps_set (i := 3) sc_law_piece.nd rfl (Or.inl rfl) (pe_call G_law_joined (hr.mono (by omega)) rfl T.g__law_joined T.k__law_joined T.bd__law_joined .nil pass0 (pa_cons (pv 3) (pa_cons (pe_call G_law_part (hr.mono (by omega)) rfl T.g__law_part T.k__law_part T.bd__law_part .nil pass0 (pa_cons (pv 0) (pa_cons (pv 1) (pa_cons (pv 2) pa_nil)))) pa_nil))))))
      (pss_one (ps_ret (pv 3))))), ?_⟩
    refine ⟨_, rfl, _, rfl, _, rfl, st, ca, room, lc, ld, ns, n, cells, called, rfl, S, R, fun u cs rs H1 hp ho hw S1 f1 => ?_⟩
    refine ⟨_, rfl, st, ca, ns, 4, rfl, S1, by decide, by decide, fun v H2 v0 v1 S2 f2 => ?_⟩
    obtain ⟨i6, d6, n6, t6, b6, c6, z6, e6⟩ := S2.at'
    refine ⟨_, rfl, _, _, _, _, rfl, rfl, SqL.of e6, rfl, _, _, rfl, rfl, .inr ⟨_, rfl, _, _, rfl, rfl, .inl ⟨by omega, by omega⟩, _, rfl, ?_⟩⟩
    have hm : ∀ bb : Bool, 0 ≤ v * (if bb then 1 else 0 : Int) ∧ v * (if bb then 1 else 0 : Int) ≤ 3 := fun bb => by cases bb <;> simp <;> omega
    obtain ⟨m0, m1⟩ := hm (decide ((0 : Int) ≤ b6))
    refine ⟨by omega, by omega, ?_⟩
    refine for_range (lo := 0) (n := (v * (if decide ((0 : Int) ≤ b6) then 1 else 0 : Int)).toNat) (fun i σ H' => ∃ (u : V) (cs : List PyData) (rs : List (List Int)) (ok : Option V), σ = [some (.ref st), some (.ref room), some (.int (d : Int)), some u, ok] ∧ PieceAt K H' st u cs rs ∧ PieceOk cs rs ((i + 1) * pB d) ∧ PW 0 0 cs rs ∧ StD H' st ca ns ∧ Frs st H H')
      ⟨u, cs, rs, _, rfl, hp.keep S1 f2, ho.mono (by omega), hw, S2, f1.tr f2⟩ ?_ ?_
    · rintro i σ H' hi ⟨u, cs, rs, ok, rfl, hp, ho, hw, S3, f3⟩
      have hmul : (i + 1) * pB d ≤ 3 * pB d := Nat.mul_le_mul_right _ (by omega)
      have hsum : (i + 1) * pB d + pB d = (i + 1 + 1) * pB d := by rw [Nat.add_mul (i + 1), Nat.one_mul]
      have c1 := ho.l1
      have c2 := ho.l2
      refine ⟨_, rfl, _, rfl, _, rfl, _, rfl, st, ca, room, lc, ld, ns, n, cells, called, rfl, S3, R.keep S f3, fun u2 cs2 rs2 H4 hp2 ho2 hw2 S4 f4 => ?_⟩
      have c3 := ho2.l1
      have c4 := ho2.l2
      refine ⟨st, u, u2, cs, cs2, rs, rs2, rfl, hp.keep S3 f4, hp2, fun r hr => (ho2.r r hr).1, (by obtain ⟨_, _, _, _, _, _, _, e⟩ := S4.at'; exact ⟨_, e⟩), by omega, by omega, fun u3 H5 hp3 s5 => ?_⟩
      exact ⟨u3, _, _, _, rfl, hp3, (ho.join ho2).mono (by omega), hw.join hw2 (by omega) (by omega) (by omega) (by omega), S4.same s5, (f3.tr f4).tr (Frs.of s5)⟩
    · rintro σ H' ⟨u, cs, rs, ok, rfl, hp, ho, hw, S3, f3⟩
      have hmul : ((v * (if decide ((0 : Int) ≤ b6) then 1 else 0 : Int)).toNat + 1) * pB d ≤ 4 * pB d := Nat.mul_le_mul_right _ (by omega)
      exact ⟨_, rfl, q u cs rs H' hp (ho.mono hmul) hw S3 f3⟩

theorem ok_part_aux (T : Txt K mg a) (d k : Nat) (hk : 8 ≤ k) (hd : d ≤ 3) (sp' sph : Sp) (G_law_piece : FnOk P w K mg base CX0 k a.f_law_piece a.d_law_piece ["state", "room", "depth"] sp') (G_law_handler : FnOk P w K mg base CX0 (k + 1) a.f_law_handler a.d_law_handler ["state", "room", "depth", "number", "place"] sph)
    (hP : ∀ m, d = m + 1 → ∀ vs H Q E, spPieceL K (bP m) m vs H Q E → sp' vs H Q E) (hH : ∀ m, d = m + 1 → ∀ vs H Q E, spHandL K m vs H Q E → sph vs H Q E) :
    FnOk P w K mg base CX0 (k + 2) a.f_law_part a.d_law_part ["state", "room", "depth"] (spPieceL K (pB d) d) := by
  have G_law_draw : FnOk P w K mg base CX0 3 _ _ _ _ := ok_law_draw T
  have G_law_joined : FnOk P w K mg base CX0 1 _ _ _ _ := ok_law_joined T
  have G_law_operand : FnOk P w K mg base CX0 5 _ _ _ _ := ok_law_operand T
  have G_law_straight : FnOk P w K mg base CX0 7 _ _ _ _ := ok_law_straight T
  refine T.F__law_part.ok sc_law_part (fun vs H Q E h => ?_) (fun cdv A outer s H vs Q E hr h => ?_)
  · obtain ⟨_, _, _, _, _, _, _, _, _, rfl, _⟩ := h; rfl
  · obtain ⟨st, ca, room, lc, ld, ns, n, cells, called, rfl, S, R, q⟩ := h
    have hz := sizeLine_eq
    refine ⟨_, (pss_cons (ps_asg (pe_op op_sub (pe_ix ix_list (pv 0) pe_int (fun _ _ => rfl)) pe_int) (pg_sub (pv 0) pe_int set_list))
      (pss_cons (ps_set (i := 3) sc_law_part.nd rfl (Or.inl rfl) (pe_call G_law_draw (hr.mono (by omega)) rfl T.g__law_draw T.k__law_draw T.bd__law_draw .nil pass0 (pa_cons (pv 0) (pa_cons pe_int pa_nil))))
      (pss_cons (ps_if (PW.pt (pw_or (pt_cmpR op_eq (pv 2) pe_int (nomark _)) (pw_or (pt_cmpR op_lt (pe_ix ix_list (pv 0) pe_int (fun _ _ => rfl)) pe_int (nomark _)) (pw_or (pt_cmpR op_gt (pv 3) (pe_ix ix_list (pv 0) pe_int (fun _ _ => rfl)) (nomark _)) (pw_or1 (pt_cmpR op_lt (pe_ix ix_list (pv 1) pe_int (fun _ _ => rfl)) pe_int (nomark _))))))) (pss_one (ps_ret (pe_tup (pa_cons (pe_call G_law_straight (hr.mono (by omega)) rfl T.g__law_straight T.k__law_straight T.bd__law_straight .nil pass0 (pa_cons (pv 0) (pa_cons (pv 1) pa_nil))) (pa_cons (pe_lst pa_nil) pa_nil))))) pss_nil)
      (pss_cons (ps_set (i := 4) sc_law_part.nd rfl (Or.inl rfl) (pe_call G_law_piece (hr.mono (by omega)) rfl T.g__law_piece T.k__law_piece T.bd__law_piece .nil pass0 (pa_cons (pv 0) (pa_cons (pv 1) (pa_cons (pe_op op_sub (pv 2) pe_int) pa_nil)))))
      (pss_cons (ps_set (i := 5) sc_law_part.nd rfl (Or.inl rfl) (pe_call G_law_operand (hr.mono (by omega)) rfl T.g__law_operand T.k__law_operand T.bd__law_operand .nil pass0 (pa_cons (pv 0) (pa_cons (pv 1) pa_nil))))
      (pss_cons (ps_if (pt_cmpR op_eq (pv 3) pe_int (nomark _)) (pss_one (ps_ret (pe_call G_law_joined (hr.mono (by omega)) rfl T.g__law_joined T.k__law_joined T.bd__law_joined .nil pass0 (pa_cons (pe_call G_law_joined (hr.mono (by omega)) rfl T.g__law_joined T.k__law_joined T.bd__law_joined .nil pass0 (pa_cons (pe_tup (pa_cons (pe_lst (pa_cons (pe_tup (pa_cons pe_str pa_nil)) pa_nil)) (pa_cons (pe_lst pa_nil) pa_nil))) (pa_cons (pv 4) pa_nil))) (pa_cons (pe_tup (pa_cons (pe_lst (pa_cons (pe_tup (pa_cons pe_str (pa_cons (pv 5) (pa_cons (pe_op op_sub (pe_op op_sub pe_int (pe_callB call_len_seq (by rfl) T.b_len (by decide +kernel) (pa_cons (pe_ix ix_tup (pv 4) pe_int (fun _ _ => rfl)) pa_nil))) pe_int) pa_nil)))) pa_nil)) (pa_cons (pe_lst pa_nil) pa_nil))) pa_nil))))) pss_nil)
      (pss_cons (ps_if (pt_cmpR op_eq (pv 3) pe_int (nomark _)) (pss_cons (ps_set (i := 6) sc_law_part.nd rfl (Or.inl rfl) (pe_call G_law_piece (hr.mono (by omega)) rfl T.g__law_piece T.k__law_piece T.bd__law_piece .nil pass0 (pa_cons (pv 0) (pa_cons (pv 1) (pa_cons (pe_op op_sub (pv 2) pe_int) pa_nil)))))
      (pss_cons (ps_set (i := 7) sc_law_part.nd rfl (Or.inl rfl) (pe_tup (pa_cons (pe_lst (pa_cons (pe_tup (pa_cons pe_str (pa_cons (pv 5) (pa_cons (pe_op op_add (pe_callB call_len_seq (by rfl) T.b_len (by decide +kernel) (pa_cons (pe_ix ix_tup (pv 6) pe_int (fun _ _ => rfl)) pa_nil)) pe_int) pa_nil)))) pa_nil)) (pa_cons (pe_lst pa_nil) pa_nil))))
      (pss_one (ps_ret (pe_call G_law_joined (hr.mono (by omega)) rfl T.g__law_joined T.k__law_joined T.bd__law_joined .nil pass0 (pa_cons (pe_call G_law_joined (hr.mono (by omega)) rfl T.g__law_joined T.k__law_joined T.bd__law_joined .nil pass0 (pa_cons (pe_call G_law_joined (hr.mono (by omega)) rfl T.g__law_joined T.k__law_joined T.bd__law_joined .nil pass0 (pa_cons (pv 7) (pa_cons (pv 6) pa_nil))) (pa_cons (pe_tup (pa_cons (pe_lst (pa_cons (pe_tup (pa_cons pe_str (pa_cons (pe_op op_add (pe_callB call_len_seq (by rfl) T.b_len (by decide +kernel) (pa_cons (pe_ix ix_tup (pv 4) pe_int (fun _ _ => rfl)) pa_nil)) pe_int) pa_nil))) pa_nil)) (pa_cons (pe_lst pa_nil) pa_nil))) pa_nil))) (pa_cons (pv 4) pa_nil))))))) pss_nil)
      (pss_cons (ps_set (i := 8) sc_law_part.nd rfl (Or.inl rfl) (pe_call G_law_draw (hr.mono (by omega)) rfl T.g__law_draw T.k__law_draw T.bd__law_draw .nil pass0 (pa_cons (pv 0) (pa_cons (pe_ix ix_list (pv 1) pe_int (fun _ _ => rfl)) pa_nil))))
      (pss_cons (ps_set (i := 9) sc_law_part.nd rfl (Or.inl rfl) (pe_op op_mod (pe_callTy call_int1 (by rfl) T.b_int (by decide +kernel) (pa_cons (pe_op op_add (pe_op op_add (pv 8) pe_int) (pe_call G_law_draw (hr.mono (by omega)) rfl T.g__law_draw T.k__law_draw T.bd__law_draw .nil pass0 (pa_cons (pv 0) (pa_cons (pe_op op_sub (pe_ix ix_list (pv 1) pe_int (fun _ _ => rfl)) pe_int) pa_nil)))) pa_nil)) (pe_ix ix_list (pv 1) pe_int (fun _ _ => rfl))))
      (pss_cons (ps_set (i := 6) sc_law_part.nd rfl (Or.inl rfl) (pe_call G_law_handler (hr.mono (by omega)) rfl T.g__law_handler T.k__law_handler T.bd__law_handler .nil pass0 (pa_cons (pv 0) (pa_cons (pv 1) (pa_cons (pe_op op_sub (pv 2) pe_int) (pa_cons (pv 8) (pa_cons (pv 9) pa_nil)))))))
      (pss_cons (ps_set (i := 10) sc_law_part.nd rfl (Or.inl rfl) (pe_callB call_len_seq (by rfl) T.b_len (by decide +kernel) (pa_cons (pe_ix ix_tup (pv 4) pe_int (fun _ _ => rfl)) pa_nil)))
      (pss_cons (ps_set (i := 11) sc_law_part.nd rfl (Or.inl rfl) (pe_tup (pa_cons (pe_op op_cat (pe_ix ix_tup (pv 4) pe_int (fun _ _ => rfl)) (pe_lst (pa_cons (pe_tup (pa_cons pe_str (pa_cons (pe_op op_add (pe_callB call_len_seq (by rfl) T.b_len (by decide +kernel) (pa_cons (pe_ix ix_tup (pv 6) pe_int (fun _ _ => rfl)) pa_nil)) pe_int) pa_nil))) pa_nil))) (pa_cons (pe_op op_cat (pe_ix ix_tup (pv 4) pe_int (fun _ _ => rfl)) (pe_lst (pa_cons (pe_tup (pa_cons pe_int (pa_cons (pv 10) (pa_cons (pe_op op_add (pv 10) pe_int) (pa_cons (pv 8) (pa_cons (pv 9) pa_nil)))))) pa_nil))) pa_nil))))
      (pss_one (ps_ret (pe_call G_law_joined (hr.mono (by omega)) rfl T.g__law_joined T.k__law_joined T.bd__law_joined .nil pass0 (pa_cons (pv 11) (pa_cons (pv 6) pa_nil))))))))))))))))), ?_⟩
    obtain ⟨i0, d0, n0, t0, b0, c0, z0, e0⟩ := S.at'
    refine ⟨_, rfl, _, _, _, _, rfl, rfl, SqL.of e0, rfl, _, _, rfl, rfl, _, rfl, _, _, _, _, rfl, rfl, e0, rfl, ?_⟩
    have S0 : StD (upd H st (.lst [.ref ca, .int i0, .int d0, .int n0, .int t0, .int (b0 - 1), .int c0])) st ca ns := ⟨⟨_, _, _, _, _, _, z0, upd_same⟩, by
      rw [upd_ne (ne_of S.ca' e0 fun e => by
        injection e with e
        cases ns with
        | nil => exact nomatch e
        | cons x r => injection e with e _; exact nomatch e)]
      exact S.ca'⟩
    have f0 : Frs st H (upd H st (.lst [.ref ca, .int i0, .int d0, .int n0, .int t0, .int (b0 - 1), .int c0])) := Frs.refl.put
    have R0 := R.keep S f0
    refine ⟨_, rfl, st, ca, ns, 8, rfl, S0, by decide, by decide, fun ch H1 a1 b1 S1 f1 => ?_⟩
    have R1 := R0.keep S0 f1
    have F1 := f0.tr f1
    clear S0 f0 R0 f1 e0
    obtain ⟨i6, d6, n6, t6, b6, c6, z6, e6⟩ := S1.at'
    refine' twice (fun rest => ?main) ?restp
    case main =>
      refine ⟨_, rfl, rfl, _, rfl, ite3 (fun c => iteT rest.r) (fun cd => ?_)⟩
      refine ⟨_, rfl, _, _, _, _, rfl, rfl, SqL.of e6, rfl, _, _, rfl, rfl, _, rfl, ite3 (fun c => iteT rest.r) (fun c => ?_)⟩
      refine ⟨_, rfl, _, rfl, _, _, _, _, rfl, rfl, SqL.of e6, rfl, _, _, rfl, rfl, _, rfl, ite3 (fun c => iteT rest.r) (fun c => ?_)⟩
      refine ⟨_, rfl, _, _, _, _, rfl, rfl, SqL.of R1.at', rfl, _, _, rfl, rfl, _, rfl, ite3 (fun c => rest.r) (fun c => ?_)⟩
      clear rest
      have hd0 : (d : Int) ≠ 0 := int_dec' cd
      obtain ⟨m, rfl⟩ : ∃ m, d = m + 1 := ⟨d - 1, by omega⟩
      have ed : V.int (((m + 1 : Nat) : Int) - 1) = V.int (m : Int) := congrArg V.int (by omega)
      have hpB : pB (m + 1) = 2 * bP m + 2 := rfl
      have hbb : bP m ≤ 10000 := by
        have : m = 0 ∨ m = 1 ∨ m = 2 := by omega
        rcases this with e | e | e <;> subst e <;> decide
      refine ⟨_, rfl, _, rfl, _, rfl, _, _, rfl, rfl, hP m rfl _ _ _ _ ⟨st, ca, room, lc, ld, ns, n, cells, called, (by show [_, _, V.int _] = [_, _, V.int _]; rw [ed]), S1, R1, fun u1 cs1 rs1 H2 hp1 ho1 hw1 S2 f2 => ?_⟩⟩
      have R2 := R1.keep S1 f2
      have F2 := F1.tr f2
      refine ⟨_, rfl, _, rfl, st, ca, room, lc, ld, ns, n, cells, called, rfl, S2, R2, fun x gx H3 dx S3 f3 => ?_⟩
      have R3 := R2.keep S2 f3
      have F3 := F2.tr f3
      have hp1' := hp1.keep S2 f3
      have c1 := ho1.l1
      have c2 := ho1.l2
      have h51 : ∀ r ∈ rs1, r.length = 5 := fun r hr => (ho1.r r hr).1
      clear R1 R2 F1 F2 f2 f3 S1 S2 hp1
      obtain ⟨p1, la1, lb1, ua1, wb1, rfl, hsp1, hla1, hlb1, dua1, dwb1, na1, nb1⟩ := hp1'.at'
      have lu1 := dua1.len
      refine ⟨_, rfl, rfl, _, rfl, ite3 (fun c => ?_) (fun c => ?_)⟩
      · refine ⟨(by show 1 ≤ sizeLine; decide), fun t1 n1 => ⟨(by show 1 ≤ sizeLine; decide), fun l1 m1 => ⟨by decide, fun g1 k1 => ⟨(by show 2 ≤ sizeLine; decide), fun q1 j1 => ?_⟩⟩⟩⟩
        have S4 := ((S3.new n1 (o := .tup [.str "tick"])).new m1 (o := .lst [.ref t1]))
        have P0 := piece_new S4 ⟨_, upd_same, .cons ((lay (K := K) n1 (.cons (.str "tick") .nil)).keep (KT.new m1)) .nil⟩ ((S3.new n1).ne m1) k1 j1
        have s4 := sN (sN (sN (sN (Same.refl H3) n1 (o := .tup [.str "tick"])) m1 (o := .lst [.ref t1])) k1 (o := .lst [])) j1 (o := .tup [.ref l1, .ref g1])
        have S5 := S3.same s4
        refine ⟨_, rfl, st, .ref q1, .ref p1, _, cs1, [], rs1, rfl, P0, hp1'.keep S3 (Frs.of s4), h51, (by obtain ⟨_, _, _, _, _, _, _, e⟩ := S5.at'; exact ⟨_, e⟩), (by simp; omega), (by simp; omega), fun u2 H6 hp2 s6 => ?_⟩
        have s46 := sTr s4 s6
        have S6 := S3.same s46
        refine ⟨_, rfl, _, rfl, _, _, _, _, rfl, rfl, seqT s46 hsp1, rfl, _, _, rfl, .inl (SqL.of (s46 _ _ hla1)), _, _, rfl, rfl, _, _, rfl, rfl, (by show 3 ≤ sizeLine; decide), fun t2 n2 => ⟨(by show 1 ≤ sizeLine; decide), fun l2 m2 => ⟨by decide, fun g2 k2 => ⟨(by show 2 ≤ sizeLine; decide), fun q2 j2 => ?_⟩⟩⟩⟩
        have dx6 := dx.keep (KT.same s46)
        have S7 := ((S6.new n2 (o := .tup [.str "branch", x, .int (0 - (ua1.length : Nat) - 1)])).new m2 (o := .lst [.ref t2]))
        have P2 := piece_new S7 ⟨_, upd_same, .cons ((lay n2 (.cons (.str "branch") (.cons dx6 (.cons (.int (0 - (ua1.length : Nat) - 1)) .nil)))).keep (KT.new m2)) .nil⟩ ((S6.new n2).ne m2) k2 j2
        have s7 := sN (sN (sN (sN (Same.refl H6) n2 (o := .tup [.str "branch", x, .int (0 - (ua1.length : Nat) - 1)])) m2 (o := .lst [.ref t2])) k2 (o := .lst [])) j2 (o := .tup [.ref l2, .ref g2])
        have S8 := S6.same s7
        refine ⟨st, u2, .ref q2, _, _, _, [], rfl, hp2.keep S6 (Frs.of s7), P2, (fun r h => nomatch h), (by obtain ⟨_, _, _, _, _, _, _, e⟩ := S8.at'; exact ⟨_, e⟩), (by simp; omega), (by simp; omega), fun u3 H9 hp3 s9 => ?_⟩
        refine q u3 _ _ H9 hp3 ((((one_ok (insS (nm := "tick") (ds := []) (by decide +kernel)).ok).join ho1).join (one_ok insB)).mono (by omega)) (((PW.one (lo := 0) (hi := 0) (insS (nm := "tick") (ds := []) (by decide +kernel)).w).join hw1 (lo := 0) (hi := 0) (by omega) (by omega) (by omega) (by omega)).join (PW.one (lo := (cs1.length : Int) + 1) (hi := 0) (wB (by omega) (by omega))) (by omega) (by omega) (by first | (simp; done) | (simp; omega)) (by omega)) (S8.same s9) (F3.tr (Frs.of (sTr s46 (sTr s7 s9))))
      refine ⟨_, rfl, rfl, _, rfl, ite3 (fun c => ?_) (fun c => ?_)⟩
      · refine ⟨_, rfl, _, rfl, _, rfl, _, _, rfl, rfl, hP m rfl _ _ _ _ ⟨st, ca, room, lc, ld, ns, n, cells, called, (by show [_, _, V.int _] = [_, _, V.int _]; rw [ed]), S3, R3, fun u2 cs2 rs2 H4 hp2 ho2 hw2 S4 f4 => ?_⟩⟩
        have c3 := ho2.l1
        have c4 := ho2.l2
        have hp14 := hp1'.keep S3 f4
        obtain ⟨p2, la2, lb2, ua2, wb2, rfl, hsp2, hla2, hlb2, dua2, dwb2, na2, nb2⟩ := hp2.at'
        have lu2 := dua2.len
        have dx4 := dx.keep (S3.kt f4)
        refine ⟨_, rfl, _, rfl, _, _, _, _, rfl, rfl, hsp2, rfl, _, _, rfl, .inl (SqL.of hla2), _, _, rfl, rfl, (by show 3 ≤ sizeLine; decide), fun t1 n1 => ⟨(by show 1 ≤ sizeLine; decide), fun l1 m1 => ⟨by decide, fun g1 k1 => ⟨(by show 2 ≤ sizeLine; decide), fun q1 j1 => ?_⟩⟩⟩⟩
        have S5 := ((S4.new n1 (o := .tup [.str "branch", x, .int ((ua2.length : Nat) + 2)])).new m1 (o := .lst [.ref t1]))
        have P0 := piece_new S5 ⟨_, upd_same, .cons ((lay n1 (.cons (.str "branch") (.cons dx4 (.cons (.int ((ua2.length : Nat) + 2)) .nil)))).keep (KT.new m1)) .nil⟩ ((S4.new n1).ne m1) k1 j1
        have s5 := sN (sN (sN (sN (Same.refl H4) n1 (o := .tup [.str "branch", x, .int ((ua2.length : Nat) + 2)])) m1 (o := .lst [.ref t1])) k1 (o := .lst [])) j1 (o := .tup [.ref l1, .ref g1])
        have S6 := S4.same s5
        refine ⟨_, rfl, _, rfl, st, .ref q1, .ref p2, _, cs2, [], rs2, rfl, P0, hp2.keep S4 (Frs.of s5), (fun r hr => (ho2.r r hr).1), (by obtain ⟨_, _, _, _, _, _, _, e⟩ := S6.at'; exact ⟨_, e⟩), (by simp; omega), (by simp; omega), fun u3 H7 hp3 s7 => ?_⟩
        have s57 := sTr s5 s7
        have S7 := S4.same s57
        have f47 := f4.tr (Frs.of s57)
        refine ⟨_, rfl, _, _, _, _, rfl, rfl, S3.kt f47 _ _ hsp1, rfl, _, _, rfl, .inl (SqL.of (f47 _ _ hla1 na1)), _, _, rfl, rfl, (by show 2 ≤ sizeLine; decide), fun t2 n2 => ⟨(by show 1 ≤ sizeLine; decide), fun l2 m2 => ⟨by decide, fun g2 k2 => ⟨(by show 2 ≤ sizeLine; decide), fun q2 j2 => ?_⟩⟩⟩⟩
        have S8 := ((S7.new n2 (o := .tup [.str "jump", .int ((ua1.length : Nat) + 1)])).new m2 (o := .lst [.ref t2]))
        have P2 := piece_new S8 ⟨_, upd_same, .cons ((lay (K := K) n2 (.cons (.str "jump") (.cons (.int ((ua1.length : Nat) + 1)) .nil))).keep (KT.new m2)) .nil⟩ ((S7.new n2).ne m2) k2 j2
        have s8 := sN (sN (sN (sN (Same.refl H7) n2 (o := .tup [.str "jump", .int ((ua1.length : Nat) + 1)])) m2 (o := .lst [.ref t2])) k2 (o := .lst [])) j2 (o := .tup [.ref l2, .ref g2])
        have S9 := S7.same s8
        refine ⟨st, u3, .ref q2, _, _, _, [], rfl, hp3.keep S7 (Frs.of s8), P2, (fun r h => nomatch h), (by obtain ⟨_, _, _, _, _, _, _, e⟩ := S9.at'; exact ⟨_, e⟩), (by simp; omega), (by simp; omega), fun u4 H10 hp4 s10 => ?_⟩
        have sA := sTr s8 s10
        have S10 := S7.same sA
        refine ⟨_, rfl, st, u4, .ref p1, _, cs1, _, rs1, rfl, hp4, (hp14.keep S4 (Frs.of s57)).keep S7 (Frs.of sA), h51, (by obtain ⟨_, _, _, _, _, _, _, e⟩ := S10.at'; exact ⟨_, e⟩), (by simp; omega), (by simp; omega), fun u5 H11 hp5 s11 => ?_⟩
        refine q u5 _ _ H11 hp5 (((((one_ok insB).join ho2).join (one_ok insJ)).join ho1).mono (by omega)) (((((PW.one (lo := 0) (hi := (cs2.length : Int) + 1) (wB (by omega) (by omega))).join hw2 (lo := 0) (hi := 1) (by omega) (by omega) (by omega) (by omega)).join (PW.one (lo := 0) (hi := (cs1.length : Int)) (wJ (by omega) (by omega))) (lo := 0) (hi := (cs1.length : Int)) (by omega) (by simp; omega) (by omega) (by omega)).join hw1 (by omega) (by omega) (by omega) (by omega))) (S10.same s11) (F3.tr (f47.tr (Frs.of (sTr sA s11))))
      · have hn := R3.hn
        refine ⟨_, rfl, _, rfl, _, _, _, _, rfl, rfl, SqL.of R3.at', rfl, st, ca, ns, n, rfl, S3, by omega, by omega, fun nu H4 a4 b4 S4 f4 => ?_⟩
        have R4 := R3.keep S3 f4
        refine ⟨_, rfl, _, _, rfl, rfl, _, rfl, _, rfl, _, _, _, _, rfl, rfl, SqL.of R4.at', rfl, _, _, rfl, rfl, st, ca, ns, n - 1, rfl, S4, by omega, by omega, fun pl H5 a5 b5 S5 f5 => ⟨_, _, rfl, rfl, .inl ⟨_, rfl, ?_⟩⟩⟩
        have R5 := R4.keep S4 f5
        refine ⟨_, rfl, _, _, _, _, rfl, rfl, SqL.of R5.at', rfl, _, _, rfl, rfl, (by show 0 < n; omega), ?_⟩
        refine ⟨_, rfl, _, rfl, _, rfl, _, _, rfl, rfl, _, rfl, _, rfl, hH m rfl _ _ _ _ ⟨st, ca, room, lc, ld, ns, n, cells, called, nu, (nu + 1 + pl) % n, (by show [_, _, V.int (((m + 1 : Nat) : Int) - 1), _, _] = [_, _, V.int (m : Int), _, _]; rw [ed]), S5, R5, fun u2 cs2 rs2 H6 hp2 ho2 hw2 S6 f6 => ?_⟩⟩
        have c3 := ho2.l1
        have c4 := ho2.l2
        have f36 := (f4.tr f5).tr f6
        have hp16 := hp1'.keep S3 f36
        obtain ⟨p2, la2, lb2, ua2, wb2, rfl, hsp2, hla2, hlb2, dua2, dwb2, na2, nb2⟩ := hp2.at'
        have lu2 := dua2.len
        have ha6 := f36 _ _ hla1 na1
        have hb6 := f36 _ _ hlb1 nb1
        have k36 : KT K H3 H6 := S3.kt f36
        refine ⟨_, rfl, _, _, _, _, rfl, rfl, k36 _ _ hsp1, rfl, _, _, rfl, .inl (SqL.of ha6), ?_⟩
        refine ⟨_, rfl, _, _, _, _, rfl, rfl, k36 _ _ hsp1, rfl, _, rfl, _, _, _, _, rfl, rfl, hsp2, rfl, _, _, rfl, .inl (SqL.of hla2), _, _, rfl, rfl, (by show 2 ≤ sizeLine; decide), fun t1 n1 => ⟨(by show 1 ≤ sizeLine; decide), fun l1 m1 => ?_⟩⟩
        have s7 := sN (sN (Same.refl H6) n1 (o := .tup [.str "jump", .int ((ua2.length : Nat) + 1)])) m1 (o := .lst [.ref t1])
        refine ⟨la1, l1, ua1, [.ref t1], rfl, rfl, s7 _ _ ha6, upd_same, (by simp; omega), fun L1 h1 => ?_⟩
        have s8 := sN s7 h1 (o := .lst (ua1 ++ [.ref t1]))
        have lwb := dwb1.len
        rw [List.length_map] at lwb
        refine ⟨_, rfl, _, _, _, _, rfl, rfl, seqT s8 (k36 _ _ hsp1), rfl, _, rfl, _, rfl, _, _, rfl, rfl, _, rfl, _, rfl, (by show 5 ≤ sizeLine; decide), fun t2 n2 => ⟨(by show 1 ≤ sizeLine; decide), fun l2 m2 => ?_⟩⟩
        have s9 := sN (sN s8 n2 (o := .tup [.int 0, .int (ua1.length : Nat), .int ((ua1.length : Nat) + 1), .int nu, .int ((nu + 1 + pl) % n)])) m2 (o := .lst [.ref t2])
        refine ⟨lb1, l2, wb1, [.ref t2], rfl, rfl, s9 _ _ hb6, upd_same, (by simp; omega), fun L2 h2 => ⟨(by show 2 ≤ sizeLine; decide), fun pb npb => ?_⟩⟩
        have s8a := sN (Same.refl _) h1 (o := .lst (ua1 ++ [.ref t1]))
        have s9a := sN (sN (Same.refl _) n2 (o := .tup [.int 0, .int (ua1.length : Nat), .int ((ua1.length : Nat) + 1), .int nu, .int ((nu + 1 + pl) % n)])) m2 (o := .lst [.ref t2])
        have s10a := sN (sN (Same.refl _) h2 (o := .lst (wb1 ++ [.ref t2]))) npb (o := .tup [.ref L1, .ref L2])
        have s10 := sTr s9 s10a
        have S10 := S6.same s10
        have dj := (lay (K := K) n1 (.cons (.str "jump") (.cons (.int ((ua2.length : Nat) + 1)) .nil))).keep (KT.same (sTr (sN (Same.refl _) m1 (o := .lst [.ref t1])) (sTr s8a (sTr s9a s10a))))
        have dr := (lay (K := K) n2 (.cons (.int 0) (.cons (.int (ua1.length : Nat)) (.cons (.int ((ua1.length : Nat) + 1)) (.cons (.int nu) (.cons (.int ((nu + 1 + pl) % n)) .nil)))))).keep (KT.same (sTr (sN (Same.refl _) m2 (o := .lst [.ref t2])) s10a))
        have okB : PieceOk (cs1 ++ [.tuple [.str "jump", .int ((ua2.length : Nat) + 1)]]) (rs1 ++ [([0, ((ua1.length : Nat) : Int), ((ua1.length : Nat) : Int) + 1, nu, (nu + 1 + pl) % n] : List Int)]) (bP m + 1) := by
          refine ⟨fun D hD => ?_, fun r hr => ?_, by simp; omega, by simp; omega⟩
          · rcases List.mem_append.mp hD with h | h
            · exact ho1.i D h
            · rw [List.mem_singleton.mp h]; exact insJ
          · rw [List.length_append]
            rcases List.mem_append.mp hr with h | h
            · exact (ho1.r r h).up (by omega)
            · rw [List.mem_singleton.mp h]
              refine ⟨rfl, Int.le_refl 0, ?_, ?_, ?_⟩
              · show (0 : Int) ≤ _; omega
              · show (0 : Int) ≤ ((ua1.length : Nat) : Int); omega
              · show ((ua1.length : Nat) : Int) ≤ _; rw [lu1]; simp; omega
        have wB' : PW 0 (cs2.length : Int) (cs1 ++ [.tuple [.str "jump", .int ((ua2.length : Nat) + 1)]]) (rs1 ++ [([0, ((ua1.length : Nat) : Int), ((ua1.length : Nat) : Int) + 1, nu, (nu + 1 + pl) % n] : List Int)]) := by
          have hj := hw1.join (PW.one (lo := 0) (hi := (cs2.length : Int)) (wJ (t := (ua2.length : Nat) + 1) (ds := []) (by omega) (by omega))) (lo := 0) (hi := (cs2.length : Int)) (by omega) (by simp; omega) (by omega) (by omega)
          refine ⟨hj.c, fun r hr => ?_⟩
          rcases List.mem_append.mp hr with h | h
          · exact hj.e r (List.mem_append_left _ h)
          · rw [List.mem_singleton.mp h]
            refine ⟨?_, ?_⟩
            · show (0 : Int) ≤ ((ua1.length : Nat) : Int) + 1; omega
            · show ((ua1.length : Nat) : Int) + 1 ≤ _; rw [lu1]; simp; omega
        refine ⟨_, rfl, _, rfl, st, .ref pb, .ref p2, (cs1 ++ [.tuple [.str "jump", .int ((ua2.length : Nat) + 1)]]), cs2, (rs1 ++ [([0, ((ua1.length : Nat) : Int), ((ua1.length : Nat) : Int) + 1, nu, (nu + 1 + pl) % n] : List Int)]), rs2, rfl, ?PB, hp2.keep S6 (Frs.of s10), (fun r hr => (ho2.r r hr).1), (by obtain ⟨_, _, _, _, _, _, _, e⟩ := S10.at'; exact ⟨_, e⟩), (by simp; omega), (by simp; omega), fun u5 H11 hp5 s11 => ?_⟩
        case PB =>
            refine ⟨pb, L1, L2, ua1 ++ [.ref t1], wb1 ++ [.ref t2], rfl, SqT.of upd_same, sTr s9a s10a _ _ upd_same, sN (Same.refl _) npb _ _ upd_same, ?_, ?_, (S6.same s7).ne h1, (S6.same s9).ne h2⟩
            · exact (dua1.keep (k36.tr (KT.same s10))).app (.cons dj .nil)
            · rw [List.map_append]
              exact (dwb1.keep (k36.tr (KT.same s10))).app (.cons dr .nil)
        refine q u5 _ _ H11 hp5 ((okB.join ho2).mono (by omega)) (wB'.join hw2 (by omega) (by omega) (by omega) (by omega)) (S10.same s11) (F3.tr (f36.tr (Frs.of (sTr s10 s11))))
    case restp =>
      exact ⟨_, rfl, _, rfl, st, ca, room, lc, ld, ns, n, cells, called, rfl, S1, R1, fun l cs H3 hl ho hle nl S3 f3 => ⟨by decide, fun e ne => ⟨(by show 2 ≤ sizeLine; decide), fun p np => q _ cs [] _ (piece_new S3 hl nl ne np) ⟨fun D hD => (ho D hD).ok, (fun r h => nomatch h), Nat.le_trans hle (pB_pos d), Nat.zero_le _⟩ (PW.no ho) ((S3.new ne).new np) (((F1.tr f3).new ne).new np)⟩⟩⟩
theorem ok_pieces (T : Txt K mg a) : ∀ d, d ≤ 3 → FnOk P w K mg base CX0 (11 + 3 * d) a.f_law_piece a.d_law_piece ["state", "room", "depth"] (spPieceL K (bP d) d)
  | 0, _ => ok_piece T 0 10 (by omega) (ok_part_aux T 0 8 (by omega) (by omega) spNever spNever ⟨fun _ _ _ _ h => h.elim, fun _ _ _ _ _ _ _ _ _ _ _ _ _ h => h.elim⟩ ⟨fun _ _ _ _ h => h.elim, fun _ _ _ _ _ _ _ _ _ _ _ _ _ h => h.elim⟩ (fun _ h => nomatch h) (fun _ h => nomatch h)) (by omega)
  | d + 1, h => by
    have ih := ok_pieces T d (by omega)
    have hh := ok_handler T d (11 + 3 * d) (by omega) ih
    have hp := ok_part_aux T (d + 1) (11 + 3 * d) (by omega) h _ _ ih hh (fun m e vs H Q E z => by cases e; exact z) (fun m e vs H Q E z => by cases e; exact z)
    have := ok_piece T (d + 1) (11 + 3 * d + 2) (by omega) hp h
    rwa [show 11 + 3 * d + 2 + 1 = 11 + 3 * (d + 1) by omega] at this
end

/-! ### whole code -/
/-- the ways of an instruction at index i, counted from 0, lie in the code of n -/
def InsA (n i : Nat) (D : PyData) : Prop := ∀ nm ds, D = .tuple (.str nm :: ds) → (nm = "jump" → ∃ t, ds[0]? = some (.int t) ∧ 0 ≤ t ∧ t < (n : Int)) ∧ (nm = "branch" → ∃ t, ds[1]? = some (.int t) ∧ 0 ≤ t ∧ t < (n : Int)) ∧ (nm ≠ "jump" → inV (.str nm) lvs = false → i + 1 < n)
def InsR (m i : Nat) (D : PyData) : Prop := InsW 0 m i D ∧ ∀ nm ds, D = .tuple (.str nm :: ds) → inV (.str nm) lvs = false → i < m
theorem aJ {n i : Nat} {t : Int} {ds : List PyData} (a : 0 ≤ t) (b : t < (n : Int)) : InsA n i (.tuple (.str "jump" :: .int t :: ds)) := fun nm ds' e => by
  injection e with e
  injection e with e1 e2
  injection e1 with e1
  subst e1 e2
  exact ⟨fun _ => ⟨t, rfl, a, b⟩, fun e => absurd e (by decide +kernel), fun e => absurd rfl e⟩
theorem aB {n i : Nat} {t : Int} {x : PyData} {ds : List PyData} (a : 0 ≤ t) (b : t < (n : Int)) (c : i + 1 < n) : InsA n i (.tuple (.str "branch" :: x :: .int t :: ds)) := fun nm ds' e => by
  injection e with e
  injection e with e1 e2
  injection e1 with e1
  subst e1 e2
  exact ⟨fun e => absurd e (by decide +kernel), fun _ => ⟨t, rfl, a, b⟩, fun _ _ => c⟩
theorem aN {m i : Nat} {nm : Str} {ds : List PyData} (h : InsR m i (.tuple (.str nm :: ds))) (n1 : nm ≠ "jump") (n2 : nm ≠ "branch") : InsA (m + 1) i (.tuple (.str nm :: ds)) := fun nm' ds' e => by
  injection e with e
  injection e with e1 e2
  injection e1 with e1
  subst e1 e2
  exact ⟨fun e => absurd e n1, fun e => absurd e n2, fun _ z => by have := h.2 _ _ rfl z; omega⟩
structure CodeOk (cs : List PyData) (rs : List (List Int)) : Prop where
  i : ∀ D ∈ cs, InsOk D
  r : ∀ r ∈ rs, RegOk cs.length r
  l1 : cs.length ≤ 100000
  l2 : rs.length ≤ 100000
  w : ∀ (i : Nat) D, cs[i]? = some D → InsA cs.length i D
  e : ∀ r ∈ rs, 0 ≤ r.getD 2 0 ∧ r.getD 2 0 < (cs.length : Int)
  n0 : 0 < cs.length
theorem frs_kt {K : PySem.W.Frag} {C : Addr} {H H' : Hp} {ys : List V} (e : H C = some (.lst ys)) (f : Frs C H H') : KT K H H' := fun b zs h => by
  rcases h with (h | ⟨u, h⟩) | h
  · exact .inl (.inl (f _ _ h (ne_of h e fun z => nomatch z)))
  · exact .inl (.inr ⟨u, f _ _ h (ne_of h e fun z => nomatch z)⟩)
  · exact .inr h
def spCodeL (K : PySem.W.Frag) : Sp := fun vs H Q _ => ∃ (st ca room lc ld : Addr) (ns : List Int) (n : Int) (cells : List Int) (called : List (List Int)) (res : Int), vs = [.ref st, .ref room, .int res] ∧ StD H st ca ns ∧ RoomAt K H st room lc ld n cells called ∧ 0 ≤ res ∧ res ≤ 6 ∧
  ∀ (u : V) (cs : List PyData) (rs : List (List Int)) (H' : Hp), DT K H' u (.tuple [.tuple cs, .tuple (rs.map regD)]) → CodeOk cs rs → StD H' st ca ns → Frs st H H' → Q u H'
section
variable {P : Program} {w : World} {K : PySem.W.Frag} {mg : Str → Option Value} {base : Heap} {a : Ad}
theorem ok_law_code (T : Txt K mg a) : FnOk P w K mg base CX0 21 a.f_law_code a.d_law_code ["state", "room", "results"] (spCodeL K) := by
  have G_law_joined : FnOk P w K mg base CX0 1 _ _ _ _ := ok_law_joined T
  have G_law_operand : FnOk P w K mg base CX0 5 _ _ _ _ := ok_law_operand T
  have G_law_piece : FnOk P w K mg base CX0 20 _ _ _ _ := ok_pieces T 3 (by omega)
  refine T.F__law_code.ok sc_law_code (fun vs H Q E h => ?_) (fun cdv A outer s H vs Q E hr h => ?_)
  · obtain ⟨_, _, _, _, _, _, _, _, _, _, rfl, _⟩ := h; rfl
  · obtain ⟨st, ca, room, lc, ld, ns, n, cells, called, res, rfl, S, R, r0, r1, q⟩ := h
    have hz := sizeLine_eq
    refine ⟨_, (pss_cons (ps_set (i := 3) sc_law_code.nd rfl (Or.inl rfl) (pe_call G_law_joined (hr.mono (by decide)) rfl T.g__law_joined T.k__law_joined T.bd__law_joined .nil pass0 (pa_cons (pe_tup (pa_cons (pe_lst (pa_cons (pe_tup (pa_cons pe_str pa_nil)) pa_nil)) (pa_cons (pe_lst pa_nil) pa_nil))) (pa_cons (pe_call G_law_piece (hr.mono (by decide)) rfl T.g__law_piece T.k__law_piece T.bd__law_piece .nil pass0 (pa_cons (pv 0) (pa_cons (pv 1) (pa_cons pe_int pa_nil)))) pa_nil))))
      (pss_cons (ps_set (i := 4) sc_law_code.nd rfl (Or.inl rfl) (pe_callTy call_tuple_of (by rfl) T.b_tuple (by decide +kernel) (pa_cons (pe_lc (own := [("k", 5)]) (g := gName 5) rfl sc_law_code.nd (pi_range1 rfl T.b_range (pa_cons (pv 2) pa_nil)) (blkOk_by (own := [("k", 5)]) (N := ["state", "room", "results", "piece", "values", "k", "code", "instruction"]) (sc := defScope s_law_code) (by decide +kernel)) (fun _ _ _ _ _ => pg_name (i := 5) sc_law_code.nd rfl (Or.inl rfl)) (fun _ _ _ _ _ => pts_nil) (fun _ _ _ _ _ => (pe_call G_law_operand (hr.mono (by decide)) rfl T.g__law_operand T.k__law_operand T.bd__law_operand .nil pass0 (pa_cons (pv 0) (pa_cons (pv 1) pa_nil))))) pa_nil)))
      (pss_cons (ps_set (i := 6) sc_law_code.nd rfl (Or.inl rfl) (pe_lst pa_nil))
      (pss_cons (ps_for PassesOwn.never rfl (pi_list (pe_op op_cat (pe_ix ix_tup (pv 3) pe_int (fun _ _ => rfl)) (pe_lst (pa_cons (pe_tup (pa_cons pe_str (pa_cons (pv 4) pa_nil))) pa_nil)))) (pg_name (i := 7) sc_law_code.nd rfl (Or.inl rfl)) (pss_cons (ps_if (pt_cmpR op_eq (pe_ix ix_tup (pv 7) pe_int (fun _ _ => rfl)) pe_str (nomark _)) (pss_one (ps_set (i := 7) sc_law_code.nd rfl (Or.inl rfl) (pe_tup (pa_cons pe_str (pa_cons (pe_op op_add (pe_callB call_len_seq (by rfl) T.b_len (by decide +kernel) (pa_cons (pv 6) pa_nil)) (pe_ix ix_tup (pv 7) pe_int (fun _ _ => rfl))) pa_nil))))) (pss_one (ps_if (pt_cmpR op_eq (pe_ix ix_tup (pv 7) pe_int (fun _ _ => rfl)) pe_str (nomark _)) (pss_one (ps_set (i := 7) sc_law_code.nd rfl (Or.inl rfl) (pe_tup (pa_cons pe_str (pa_cons (pe_ix ix_tup (pv 7) pe_int (fun _ _ => rfl)) (pa_cons (pe_op op_add (pe_callB call_len_seq (by rfl) T.b_len (by decide +kernel) (pa_cons (pv 6) pa_nil)) (pe_ix ix_tup (pv 7) pe_int (fun _ _ => rfl))) pa_nil)))))) pss_nil)))
      (pss_one (ps_expr (pe_bm PySem.F.plainAttrs_list PySem.F.slot_list_append PySem.F.type_list_append mt_append (pv 6) (pa_cons (pv 7) pa_nil))))))
      (pss_one (ps_ret (pe_tup (pa_cons (pe_callTy call_tuple_of (by rfl) T.b_tuple (by decide +kernel) (pa_cons (pv 6) pa_nil)) (pa_cons (pe_callTy call_tuple_of (by rfl) T.b_tuple (by decide +kernel) (pa_cons (pe_ix ix_tup (pv 3) pe_int (fun _ _ => rfl)) pa_nil)) pa_nil))))))))), ?_⟩
    refine ⟨(by show 1 ≤ sizeLine; decide), fun t1 n1 => ⟨(by show 1 ≤ sizeLine; decide), fun l1 m1 => ⟨by decide, fun g1 k1 => ⟨(by show 2 ≤ sizeLine; decide), fun q1 j1 => ?_⟩⟩⟩⟩
    have S4 := ((S.new n1 (o := .tup [.str "tick"])).new m1 (o := .lst [.ref t1]))
    have P0 := piece_new S4 ⟨_, upd_same, .cons ((lay (K := K) n1 (.cons (.str "tick") .nil)).keep (KT.new m1)) .nil⟩ ((S.new n1).ne m1) k1 j1
    have s4 := sN (sN (sN (sN (Same.refl H) n1 (o := .tup [.str "tick"])) m1 (o := .lst [.ref t1])) k1 (o := .lst [])) j1 (o := .tup [.ref l1, .ref g1])
    have S5 := S.same s4
    refine ⟨_, rfl, _, rfl, st, ca, room, lc, ld, ns, n, cells, called, rfl, S5, R.keep S (Frs.of s4), fun u cs0 rs0 H5 hp ho hw S6 f6 => ?_⟩
    have c1 := ho.l1
    have c2 := ho.l2
    have hb3 : bP 3 = 4680 := by decide
    refine ⟨st, .ref q1, u, _, cs0, [], rs0, rfl, P0.keep S5 f6, hp, (fun r hr => (ho.r r hr).1), (by obtain ⟨_, _, _, _, _, _, _, e⟩ := S6.at'; exact ⟨_, e⟩), (by simp; omega), (by simp; omega), fun u1 H6 hp1 s6 => ?_⟩
    have ho1 := (one_ok (insS (nm := "tick") (ds := []) (by decide +kernel)).ok).join ho
    have hw1 := (PW.one (lo := 0) (hi := 0) (insS (nm := "tick") (ds := []) (by decide +kernel)).w).join hw (lo := 0) (hi := 0) (by omega) (by omega) (by omega) (by omega)
    have S7 := S6.same s6
    have F7 : Frs st H H6 := ((Frs.of s4).tr f6).tr (Frs.of s6)
    have R7 := R.keep S F7
    clear P0 s4 S5 hp S6 s6 f6 S4 j1 k1 m1 n1
    generalize [PyData.tuple [PyData.str "tick"]] ++ cs0 = cs at hp1 ho1 hw1
    generalize ([] : List (List Int)) ++ rs0.map (shR _) = rs at hp1 ho1 hw1
    have d1 := ho1.l1
    have d2 := ho1.l2
    refine ⟨_, rfl, _, rfl, by omega, by omega, fun D nD => ?_⟩
    have hDs := S7.ne nD
    have hDc := S7.neC nD
    refine lc_range (lo := 0) (n := res.toNat) (fun i H' => ∃ uq gs, H' D = some (.lst uq) ∧ DTs K H' uq (gs.map opD) ∧ gs.length = i ∧ StD H' st ca ns ∧ Frs st H6 H') ⟨[], [], upd_same, .nil, rfl, S7.new nD, Frs.refl.new nD⟩ ?_ ?_
    · rintro i H' hi ⟨uq, gs, hD, hus, hgl, Sq, fq⟩
      have hul := hus.len
      refine ⟨rfl, ?_⟩
      refine ⟨_, rfl, _, rfl, st, ca, room, lc, ld, ns, n, cells, called, rfl, Sq, R7.keep S7 fq, fun u g H8 du S8 f8 => ?_⟩
      have hD8 := f8 _ _ hD hDs
      refine ⟨uq, hD8, (by simp at hul; omega), uq ++ [u], gs ++ [g], upd_same, ?_, by simp [hgl], S8.upd hDs hDc, (fq.tr f8).upN nD⟩
      rw [List.map_append]
      exact ((hus.keep (Sq.kt f8)).app (.cons du .nil)).keep (KT.put hD8)
    rintro H' ⟨uq, gs, hD, hus, hgl, Sq, fq⟩
    refine ⟨D, uq, rfl, .inl ⟨SqL.of hD, fun pv npv => ?_⟩⟩
    have hv := lay npv hus
    have S8 := Sq.new npv (o := .tup uq)
    have f8 := fq.new npv (o := .tup uq)
    have F8 := F7.tr f8
    have R8 := R7.keep S7 f8
    clear hus hD fq Sq nD hDs hDc
    generalize upd H' pv (.tup uq) = H9 at hv S8 f8 F8 R8 ⊢
    have hp8 := hp1.keep S7 f8
    obtain ⟨p, la, lb, ua, wb, rfl, hsp, hla, hlb, dua, dwb, na, nb⟩ := hp8.at'
    have lu := dua.len
    have lw := dwb.len
    rw [List.length_map] at lw
    clear hp1 hp8 S7 R7 F7 f8
    refine ⟨by decide, fun C nC => ?_⟩
    have hsC := sN (Same.refl H9) nC (o := .lst [])
    have S9 := S8.new nC (o := .lst [])
    have hCs := S8.ne nC
    have F9 := F8.new nC (o := .lst [])
    refine ⟨_, rfl, _, _, _, _, rfl, rfl, seqT hsC hsp, rfl, _, rfl, (by show 2 ≤ sizeLine; decide), fun t nt => ⟨(by show 1 ≤ sizeLine; decide), fun l nl => ?_⟩⟩
    have s2 := sN (sN (Same.refl _) nt (o := .tup [.str "return", .ref pv])) nl (o := .lst [.ref t])
    refine ⟨la, l, ua, [.ref t], rfl, rfl, s2 _ _ (hsC _ _ hla), upd_same, (by simp; omega), fun L nL => ?_⟩
    have s3 := sTr s2 (sN (Same.refl _) nL (o := .lst (ua ++ [.ref t])))
    have hC3 := s3 _ _ (upd_same (H := H9) (a := C) (o := .lst []))
    have S10 := S9.same s3
    have F10 := F9.tr (Frs.of s3)
    have dall : DTs K _ (ua ++ [.ref t]) (cs ++ [.tuple [.str "return", .tuple (gs.map opD)]]) := (dua.keep (KT.same (sTr hsC s3))).app (.cons ((lay nt (.cons (.str "return") (.cons (hv.keep (KT.same hsC)) .nil))).keep (KT.same (sTr (sN (Same.refl _) nl (o := .lst [.ref t])) (sN (Same.refl _) nL (o := .lst (ua ++ [.ref t])))))) .nil)
    have hall : ∀ D ∈ cs ++ [PyData.tuple [.str "return", .tuple (gs.map opD)]], InsOk D := fun D hD => by
      rcases List.mem_append.mp hD with h | h
      · exact ho1.i D h
      · rw [List.mem_singleton.mp h]; exact (insS (by decide +kernel)).ok
    have hallR : ∀ (i : Nat) D, (cs ++ [PyData.tuple [.str "return", .tuple (gs.map opD)]])[i]? = some D → InsR cs.length i D := fun i D hD => by
      by_cases l : i < cs.length
      · rw [List.getElem?_append_left l] at hD
        exact ⟨(hw1.c i D hD).mono (by omega) (by omega), fun _ _ _ _ => l⟩
      · rw [List.getElem?_append_right (by omega)] at hD
        have hi : i - cs.length = 0 := by
          have := (List.getElem?_eq_some_iff.mp hD).1
          simp at this
          omega
        rw [hi] at hD
        obtain rfl : PyData.tuple [.str "return", .tuple (gs.map opD)] = D := by simpa using hD
        refine ⟨(insS (by decide +kernel)).w, fun nm ds e z => ?_⟩
        injection e with e
        injection e with e1 e2
        injection e1 with e1
        subst e1
        exact absurd z (by decide +kernel)
    have hsp3 := seqT (sTr hsC s3) hsp
    have hlb3 := sTr hsC s3 _ _ hlb
    have dwb3 := dwb.keep (KT.same (sTr hsC s3))
    have hL := upd_same (H := upd (upd (upd H9 C (.lst [])) t (.tup [.str "return", .ref pv])) l (.lst [.ref t])) (a := L) (o := .lst (ua ++ [.ref t]))
    have hCL : C ≠ L := ne_of hC3 hL fun z => by injection z with z; simp at z
    have lall := dall.len
    generalize ua ++ [V.ref t] = ull at dall hL lall hC3 S10 F10 hsp3 hlb3 dwb3 ⊢
    generalize hcll : cs ++ [PyData.tuple [.str "return", .tuple (gs.map opD)]] = cll at dall hall lall hallR
    have lcll : cll.length = cs.length + 1 := by rw [← hcll]; simp
    have ncC : ∀ b o, H b = some o → b ≠ st → b ≠ C := fun b o e ne => ne_of_none (F8 b o e ne) nC
    have hCc : C ≠ ca := fun e => by rw [e, S8.ca'] at nC; cases nC
    have hbC : lb ≠ C := ne_of_none hlb nC
    clear hcll s3 s2 hsC hla hlb dua dwb hsp hv R8 S8 F8 S9 F9
    generalize upd (upd (upd (upd H9 C (.lst [])) t (.tup [.str "return", .ref pv])) l (.lst [.ref t])) L (.lst ull) = H10 at hC3 S10 F10 dall hsp3 hlb3 dwb3 hL ⊢
    refine ⟨L, rfl, ⟨_, SqL.of hL⟩, ?_⟩
    have fin : ∀ {H' : Hp}, Frs C H10 H' → StD H' st ca ns ∧ Frs st H H' ∧ KT K H10 H' := fun {H'} f => by
      obtain ⟨i, d, n, t, b, c, z, e⟩ := S10.at'
      exact ⟨⟨⟨i, d, n, t, b, c, z, f _ _ e hCs.symm⟩, f _ _ S10.ca' hCc.symm⟩, fun b o e ne => f b o (F10 b o e ne) (ncC b o e ne), frs_kt hC3 f⟩
    refine for_list (K := K) (a := L) (xs := ull) (fun i σ H' => ∃ (us : List V) (cs' : List PyData) (oi : Option V), σ = [some (.ref st), some (.ref room), some (.int res), some (.ref p), some (.ref pv), none, some (.ref C), oi] ∧ H' C = some (.lst us) ∧ DTs K H' us cs' ∧ cs'.length = i ∧ (∀ D ∈ cs', InsOk D) ∧ (∀ (m : Nat) D, cs'[m]? = some D → InsA cll.length m D) ∧ Frs C H10 H')
      ⟨[], [], _, rfl, hC3, .nil, rfl, (fun D h => nomatch h), (fun m D h => by simp at h), Frs.refl⟩ (fun i σ H' _ ⟨_, _, _, _, _, _, _, _, _, f⟩ => SqL.of (f _ _ hL hCL.symm)) ?_ ?_
    · rintro i x σ H' hx ⟨us, cs', oi, rfl, hC, hus, hcl, hio, hia, f⟩
      obtain ⟨S', F', kt⟩ := fin f
      have hi : i < ull.length := (List.getElem?_eq_some_iff.mp hx).1
      obtain ⟨D, eD, dD⟩ := dall.at hx
      have dD' := dD.keep kt
      have hR := hallR i D eD
      obtain ⟨nm, ds, rfl, j1, j2⟩ := hall D (List.mem_of_getElem? eD)
      obtain ⟨pa, xs, rfl, hxs, hd⟩ := dD'.ts
      obtain ⟨v0, e0, dd0⟩ := hd.it 0 (d := .str nm) rfl
      cases dd0.s
      have hul := hus.len
      have add : ∀ {H2 : Hp} {u2 : V} {D2 : PyData}, Same H' H2 → DT K H2 u2 D2 → InsOk D2 → InsA cll.length i D2 → ∃ (us' : List V) (cs' : List PyData) (oi : Option V), [some (.ref st), some (.ref room), some (.int res), some (.ref p), some (.ref pv), none, some (.ref C), some u2] = [some (.ref st), some (.ref room), some (.int res), some (.ref p), some (.ref pv), none, some (.ref C), oi] ∧ upd H2 C (.lst (us ++ [u2])) C = some (.lst us') ∧ DTs K (upd H2 C (.lst (us ++ [u2]))) us' cs' ∧ cs'.length = i + 1 ∧ (∀ D ∈ cs', InsOk D) ∧ (∀ (m : Nat) D, cs'[m]? = some D → InsA cll.length m D) ∧ Frs C H10 (upd H2 C (.lst (us ++ [u2]))) := fun {H2 u2 D2} s2 d2 i2 a2 => by
        refine ⟨us ++ [u2], cs' ++ [D2], _, rfl, upd_same, ((hus.keep (KT.same s2)).app (.cons d2 .nil)).keep (KT.put (s2 _ _ hC)), by simp [hcl], fun D hD => ?_, fun m D hD => ?_, fun b o e ne => by rw [upd_ne ne]; exact s2 _ _ (f b o e ne)⟩
        · rcases List.mem_append.mp hD with h | h
          · exact hio D h
          · rw [List.mem_singleton.mp h]; exact i2
        · by_cases l : m < cs'.length
          · rw [List.getElem?_append_left l] at hD
            exact hia m D hD
          · have hmi : m = i := by
              have := (List.getElem?_eq_some_iff.mp hD).1
              simp at this
              omega
            rw [List.getElem?_append_right (by omega), hmi, hcl, Nat.sub_self] at hD
            obtain rfl : D2 = D := by simpa using hD
            rw [hmi]
            exact a2
      refine ⟨_, rfl, _, _, _, _, rfl, rfl, hxs, e0, rfl, _, rfl, ite3 (fun c => ?_) (fun c => ?_)⟩
      · obtain ⟨tt, ett, w0, w1⟩ := (hR.1 _ _ rfl).1 (str_dec c)
        obtain ⟨v1, e1, dd1⟩ := hd.it 1 (d := .int tt) (by simpa using ett)
        cases dd1.i
        refine ⟨_, rfl, _, _, rfl, .inl (SqL.of hC), _, rfl, _, _, _, _, rfl, rfl, hxs, e1, _, _, rfl, rfl, (by show 2 ≤ sizeLine; decide), fun t2 n2 => ?_⟩
        have s2 := sN (Same.refl H') n2 (o := .tup [.str "jump", .int ((us.length : Nat) + tt)])
        exact ⟨_, rfl, .inl ⟨rfl, _, SqL.of (s2 _ _ hC)⟩, _, rfl, C, us, _, rfl, rfl, s2 _ _ hC, (by omega), add s2 (lay n2 (.cons (.str _) (.cons (.int _) .nil))) insJ (aJ (by omega) (by omega))⟩
      refine ⟨_, rfl, _, _, _, _, rfl, rfl, hxs, e0, rfl, _, rfl, ite3 (fun c2 => ?_) (fun c2 => ?_)⟩
      · obtain ⟨tt, ett, w0, w1⟩ := (hR.1 _ _ rfl).2 (str_dec c2)
        have wl := hR.2 _ _ rfl (by rw [str_dec c2]; exact lvs_no.2)
        have hdl : 2 ≤ ds.length := by
          have := (List.getElem?_eq_some_iff.mp ett).1
          omega
        obtain ⟨v2, e2, dd2⟩ := hd.it 2 (d := .int tt) (by simpa using ett)
        obtain ⟨v1, e1, dd1⟩ := hd.it 1 (d := ds[0]) (by simp)
        cases dd2.i
        refine ⟨_, rfl, _, _, _, _, rfl, rfl, hxs, e1, _, rfl, _, _, rfl, .inl (SqL.of hC), _, rfl, _, _, _, _, rfl, rfl, hxs, e2, _, _, rfl, rfl, (by show 3 ≤ sizeLine; decide), fun t2 n2 => ?_⟩
        have s2 := sN (Same.refl H') n2 (o := .tup [.str "branch", v1, .int ((us.length : Nat) + tt)])
        exact ⟨_, rfl, .inl ⟨rfl, _, SqL.of (s2 _ _ hC)⟩, _, rfl, C, us, _, rfl, rfl, s2 _ _ hC, (by omega), add s2 (lay n2 (.cons (.str _) (.cons dd1 (.cons (.int _) .nil)))) insB (aB (by omega) (by omega) (by omega))⟩
      · exact ⟨_, rfl, .inl ⟨rfl, _, SqL.of hC⟩, _, rfl, C, us, _, rfl, rfl, hC, (by omega), add (Same.refl _) (.tup hxs hd) ⟨nm, ds, rfl, j1, j2⟩ (by rw [lcll]; exact aN hR (str_dec' c) (str_dec' c2))⟩
    · rintro σ H' ⟨us, cs', oi, rfl, hC, hus, hcl, hio, hia, f⟩
      obtain ⟨S', F', kt⟩ := fin f
      refine ⟨_, rfl, C, us, rfl, .inl ⟨SqL.of hC, fun tc ntc => ?_⟩⟩
      have s1 := sN (Same.refl H') ntc (o := .tup us)
      refine ⟨_, rfl, _, _, _, _, rfl, rfl, seqT s1 (kt _ _ hsp3), rfl, lb, wb, rfl, .inl ⟨SqL.of (s1 _ _ (f _ _ hlb3 hbC)), fun tr ntr => ⟨(by show 2 ≤ sizeLine; decide), fun pu npu => ?_⟩⟩⟩
      have s2 := sN (Same.refl _) ntr (o := .tup wb)
      have d1 := (lay ntc hus).keep (KT.same s2)
      have d2 := lay ntr (dwb3.keep (kt.tr (KT.same s1)))
      refine q _ cs' rs _ (lay npu (.cons d1 (.cons d2 .nil))) ⟨hio, fun r hr => (ho1.r r hr).up (by omega), by omega, by omega, fun m D hD => by rw [show cs'.length = cll.length by omega]; exact hia m D hD, fun r hr => ⟨(hw1.e r hr).1, by have := (hw1.e r hr).2; omega⟩, by omega⟩ (S'.same (sTr s1 (sTr s2 (sN (Same.refl _) npu)))) (F'.tr (Frs.of (sTr s1 (sTr s2 (sN (Same.refl _) npu)))))
end

section
variable {P : Program} {w : World} {K : PySem.W.Frag} {mg : Str → Option Value} {base : Heap} {a : Ad}
/-- the code that grows at C -/
structure Gr (K : PySem.W.Frag) (H0 H : Hp) (st ca C : Addr) (ns : List Int) (us : List V) (cs : List PyData) : Prop where
  c : H C = some (.lst us)
  d : DTs K H us cs
  i : ∀ D ∈ cs, InsOk D
  s : StD H st ca ns
  f : Frs st H0 H
theorem Gr.add {K : PySem.W.Frag} {H0 H H2 : Hp} {st ca C : Addr} {ns : List Int} {us us2 : List V} {cs cs2 : List PyData} (g : Gr K H0 H st ca C ns us cs) (n1 : C ≠ st) (n2 : C ≠ ca) (n0 : H0 C = none) (f : Frs st H H2) (S : StD H2 st ca ns) (d2 : DTs K H2 us2 cs2) (i2 : ∀ D ∈ cs2, InsOk D) : Gr K H0 (upd H2 C (.lst (us ++ us2))) st ca C ns (us ++ us2) (cs ++ cs2) :=
  ⟨upd_same, ((g.d.keep (g.s.kt f)).app d2).keep (KT.put (f _ _ g.c n1)), fun D hD => by
    rcases List.mem_append.mp hD with h | h
    · exact g.i D h
    · exact i2 D h, S.upd n1 n2, (g.f.tr f).upN n0⟩
theorem Gr.go {K : PySem.W.Frag} {H0 H H2 : Hp} {st ca C : Addr} {ns : List Int} {us : List V} {cs : List PyData} (g : Gr K H0 H st ca C ns us cs) (n1 : C ≠ st) (f : Frs st H H2) (S : StD H2 st ca ns) : Gr K H0 H2 st ca C ns us cs :=
  ⟨f _ _ g.c n1, g.d.keep (g.s.kt f), g.i, S, g.f.tr f⟩
theorem DTs.set {K : PySem.W.Frag} {H : Hp} {v : V} {d : PyData} (h : DT K H v d) : ∀ {vs : List V} {ds : List PyData} (i : Nat), DTs K H vs ds → DTs K H (vs.set i v) (ds.set i d)
  | _, _, _, .nil => .nil
  | _, _, 0, .cons _ r => .cons h r
  | _, _, i + 1, .cons k r => .cons k (DTs.set h i r)
theorem Gr.set {K : PySem.W.Frag} {H0 H : Hp} {st ca C t : Addr} {ns : List Int} {us ts : List V} {cs ds : List PyData} (g : Gr K H0 H st ca C ns us cs) (n1 : C ≠ st) (n2 : C ≠ ca) (n0 : H0 C = none) (nt : H t = none) (d2 : DTs K H ts ds) (i2 : InsOk (.tuple ds)) (i : Nat) : Gr K H0 (upd (upd H t (.tup ts)) C (.lst (us.set i (.ref t)))) st ca C ns (us.set i (.ref t)) (cs.set i (.tuple ds)) :=
  ⟨upd_same, (DTs.set (lay nt d2) i (g.d.keep (KT.new nt))).keep (KT.put (sN (Same.refl _) nt _ _ g.c)), fun D hD => by
    rcases List.mem_or_eq_of_mem_set hD with h | h
    · exact g.i D h
    · rw [h]; exact i2, (g.s.new nt).upd n1 n2, (g.f.new nt).upN n0⟩
/-- the ways ahead of i are laid, and the last one leaves -/
structure FrI (n i : Nat) (cs : List PyData) : Prop where
  d : ∀ (m : Nat) D, m < i → cs[m]? = some D → InsA n m D
  l : ∀ D, cs[n - 1]? = some D → ∃ ds, D = .tuple (.str "return" :: ds)
theorem FrI.nxt {n i : Nat} {cs : List PyData} {D : PyData} (h : FrI n i cs) (e : cs[i]? = some D) (w : InsA n i D) : FrI n (i + 1) cs := ⟨fun m D' hm hD => by
  by_cases l : m < i
  · exact h.d m D' l hD
  · obtain rfl : m = i := by omega
    rw [e] at hD
    obtain rfl : D = D' := by injection hD
    exact w, h.l⟩
theorem FrI.lt {n i : Nat} {cs : List PyData} {nm : Str} {ds : List PyData} (h : FrI n i cs) (hi : i < n) (e : cs[i]? = some (.tuple (.str nm :: ds))) (ne : nm ≠ "return") : i + 1 < n := by
  by_cases c : i + 1 < n
  · exact c
  · have : i = n - 1 := by omega
    rw [this] at e
    obtain ⟨ds', e'⟩ := h.l _ e
    injection e' with e'
    injection e' with e1 _
    injection e1 with e1
    exact absurd e1 ne
theorem FrI.set {n i : Nat} {cs : List PyData} {D : PyData} (h : FrI n i cs) (hi : i + 1 < n) : FrI n i (cs.set i D) := ⟨fun m D' hm hD => by
  rw [List.getElem?_set_ne (by omega)] at hD
  exact h.d m D' hm hD, fun D' hD => by
  rw [List.getElem?_set_ne (by omega)] at hD
  exact h.l D' hD⟩
theorem aN' {n i : Nat} {nm : Str} {ds : List PyData} (n1 : nm ≠ "jump") (n2 : nm ≠ "branch") (h : inV (.str nm) lvs = false → i + 1 < n) : InsA n i (.tuple (.str nm :: ds)) := fun nm' ds' e => by
  injection e with e
  injection e with e1 e2
  injection e1 with e1
  subst e1 e2
  exact ⟨fun e => absurd e n1, fun e => absurd e n2, fun _ z => h z⟩
theorem nm_tup {D : PyData} {nm : Str} {ds : List PyData} (e : D = .tuple (.str nm :: ds)) : nmOf D = nm := by rw [e]; rfl
theorem one_i {D : PyData} (h : InsOk D) : ∀ D' ∈ [D], InsOk D' := fun D' hD => by rw [List.mem_singleton.mp hD]; exact h
theorem ok_law_free (T : Txt K mg a) : FnOk P w K mg base CX0 8 a.f_law_free a.d_law_free ["state", "room", "results"] (spCodeL K) := by
  have G_law_draw : FnOk P w K mg base CX0 3 _ _ _ _ := ok_law_draw T
  have G_law_operand : FnOk P w K mg base CX0 5 _ _ _ _ := ok_law_operand T
  have G_law_straight : FnOk P w K mg base CX0 7 _ _ _ _ := ok_law_straight T
  refine T.F__law_free.ok sc_law_free (fun vs H Q E h => ?_) (fun cdv A outer s H vs Q E hr h => ?_)
  · obtain ⟨_, _, _, _, _, _, _, _, _, _, rfl, _⟩ := h; rfl
  · obtain ⟨st, ca, room, lc, ld, ns, n, cells, called, res, rfl, S, R, r0, r1, q⟩ := h
    have hz := sizeLine_eq
    have hn := R.hn
    refine ⟨_, (pss_cons (ps_set (i := 3) sc_law_free.nd rfl (Or.inl rfl) (pe_lst (pa_cons (pe_tup (pa_cons pe_str pa_nil)) pa_nil)))
      (pss_cons (ps_for PassesOwn.never rfl (pi_range1 rfl T.b_range (pa_cons (pe_op op_add pe_int (pe_call G_law_draw (hr.mono (by decide)) rfl T.g__law_draw T.k__law_draw T.bd__law_draw .nil pass0 (pa_cons (pv 0) (pa_cons pe_int pa_nil)))) pa_nil)) (pg_name (i := 4) sc_law_free.nd rfl (Or.inl rfl)) (pss_cons (ps_set (i := 5) sc_law_free.nd rfl (Or.inl rfl) (pe_call G_law_draw (hr.mono (by decide)) rfl T.g__law_draw T.k__law_draw T.bd__law_draw .nil pass0 (pa_cons (pv 0) (pa_cons pe_int pa_nil))))
      (pss_one (ps_if (pt_cmpR op_eq (pv 5) pe_int (nomark _)) (pss_one (ps_expr (pe_bm PySem.F.plainAttrs_list PySem.F.slot_list_append PySem.F.type_list_append mt_append (pv 3) (pa_cons (pe_tup (pa_cons pe_str pa_nil)) pa_nil)))) (pss_one (ps_if (pt_cmpR op_eq (pv 5) pe_int (nomark _)) (pss_one (ps_expr (pe_bm PySem.F.plainAttrs_list PySem.F.slot_list_append PySem.F.type_list_append mt_append (pv 3) (pa_cons (pe_tup (pa_cons pe_str (pa_cons (pe_callTy call_tuple_of (by rfl) T.b_tuple (by decide +kernel) (pa_cons (pe_lc (own := [("k", 4)]) (g := gName 4) rfl sc_law_free.nd (pi_range1 rfl T.b_range (pa_cons (pv 2) pa_nil)) (blkOk_by (own := [("k", 4)]) (N := ["state", "room", "results", "code", "k", "choice", "regions", "start", "stop", "entry", "number", "place", "index", "target"]) (sc := defScope s_law_free) (by decide +kernel)) (fun _ _ _ _ _ => pg_name (i := 4) sc_law_free.nd rfl (Or.inl rfl)) (fun _ _ _ _ _ => pts_nil) (fun _ _ _ _ _ => (pe_call G_law_operand (hr.mono (by decide)) rfl T.g__law_operand T.k__law_operand T.bd__law_operand .nil pass0 (pa_cons (pv 0) (pa_cons (pv 1) pa_nil))))) pa_nil)) pa_nil))) pa_nil)))) (pss_one (ps_if (pt_cmpR op_lt (pv 5) pe_int (nomark _)) (pss_one (ps_expr (pe_bm PySem.F.plainAttrs_list PySem.F.slot_list_append PySem.F.type_list_append mt_append (pv 3) (pa_cons (pe_tup (pa_cons pe_str (pa_cons (pe_call G_law_operand (hr.mono (by decide)) rfl T.g__law_operand T.k__law_operand T.bd__law_operand .nil pass0 (pa_cons (pv 0) (pa_cons (pv 1) pa_nil))) (pa_cons (pe_un un_neg pe_int) pa_nil)))) pa_nil)))) (pss_one (ps_if (pt_cmpR op_eq (pv 5) pe_int (nomark _)) (pss_one (ps_expr (pe_bm PySem.F.plainAttrs_list PySem.F.slot_list_append PySem.F.type_list_append mt_append (pv 3) (pa_cons (pe_tup (pa_cons pe_str (pa_cons (pe_un un_neg pe_int) pa_nil))) pa_nil)))) (pss_one (ps_if (pt_cmpR op_eq (pv 5) pe_int (nomark _)) (pss_one (ps_expr (pe_bm PySem.F.plainAttrs_list PySem.F.slot_list_append PySem.F.type_list_append mt_append (pv 3) (pa_cons (pe_tup (pa_cons pe_str (pa_cons (pe_call G_law_operand (hr.mono (by decide)) rfl T.g__law_operand T.k__law_operand T.bd__law_operand .nil pass0 (pa_cons (pv 0) (pa_cons (pv 1) pa_nil))) (pa_cons (pe_call G_law_operand (hr.mono (by decide)) rfl T.g__law_operand T.k__law_operand T.bd__law_operand .nil pass0 (pa_cons (pv 0) (pa_cons (pv 1) pa_nil))) pa_nil)))) pa_nil)))) (pss_one (ps_expr (pe_bm PySem.F.plainAttrs_list PySem.F.slot_list_extend PySem.F.type_list_extend mt_extend (pv 3) (pa_cons (pe_call G_law_straight (hr.mono (by decide)) rfl T.g__law_straight T.k__law_straight T.bd__law_straight .nil pass0 (pa_cons (pv 0) (pa_cons (pv 1) pa_nil))) pa_nil))))))))))))))))
      (pss_cons (ps_expr (pe_bm PySem.F.plainAttrs_list PySem.F.slot_list_append PySem.F.type_list_append mt_append (pv 3) (pa_cons (pe_tup (pa_cons pe_str (pa_cons (pe_callTy call_tuple_of (by rfl) T.b_tuple (by decide +kernel) (pa_cons (pe_lc (own := [("k", 4)]) (g := gName 4) rfl sc_law_free.nd (pi_range1 rfl T.b_range (pa_cons (pv 2) pa_nil)) (blkOk_by (own := [("k", 4)]) (N := ["state", "room", "results", "code", "k", "choice", "regions", "start", "stop", "entry", "number", "place", "index", "target"]) (sc := defScope s_law_free) (by decide +kernel)) (fun _ _ _ _ _ => pg_name (i := 4) sc_law_free.nd rfl (Or.inl rfl)) (fun _ _ _ _ _ => pts_nil) (fun _ _ _ _ _ => (pe_call G_law_operand (hr.mono (by decide)) rfl T.g__law_operand T.k__law_operand T.bd__law_operand .nil pass0 (pa_cons (pv 0) (pa_cons (pv 1) pa_nil))))) pa_nil)) pa_nil))) pa_nil)))
      (pss_cons (ps_set (i := 6) sc_law_free.nd rfl (Or.inl rfl) (pe_lst pa_nil))
      (pss_cons (ps_for PassesOwn.never rfl (pi_range1 rfl T.b_range (pa_cons (pe_call G_law_draw (hr.mono (by decide)) rfl T.g__law_draw T.k__law_draw T.bd__law_draw .nil pass0 (pa_cons (pv 0) (pa_cons pe_int pa_nil))) pa_nil)) (pg_name (i := 4) sc_law_free.nd rfl (Or.inl rfl)) (pss_cons (ps_set (i := 7) sc_law_free.nd rfl (Or.inl rfl) (pe_call G_law_draw (hr.mono (by decide)) rfl T.g__law_draw T.k__law_draw T.bd__law_draw .nil pass0 (pa_cons (pv 0) (pa_cons (pe_op op_sub (pe_callB call_len_seq (by rfl) T.b_len (by decide +kernel) (pa_cons (pv 3) pa_nil)) pe_int) pa_nil))))
      (pss_cons (ps_set (i := 8) sc_law_free.nd rfl (Or.inl rfl) (pe_op op_add (pe_op op_add (pv 7) pe_int) (pe_call G_law_draw (hr.mono (by decide)) rfl T.g__law_draw T.k__law_draw T.bd__law_draw .nil pass0 (pa_cons (pv 0) (pa_cons (pe_op op_sub (pe_op op_sub (pe_callB call_len_seq (by rfl) T.b_len (by decide +kernel) (pa_cons (pv 3) pa_nil)) pe_int) (pv 7)) pa_nil)))))
      (pss_cons (ps_set (i := 9) sc_law_free.nd rfl (Or.inl rfl) (pe_op op_add (pv 8) (pe_op op_mul (pe_call G_law_draw (hr.mono (by decide)) rfl T.g__law_draw T.k__law_draw T.bd__law_draw .nil pass0 (pa_cons (pv 0) (pa_cons (pe_op op_sub (pe_callB call_len_seq (by rfl) T.b_len (by decide +kernel) (pa_cons (pv 3) pa_nil)) (pv 8)) pa_nil))) (pe_call G_law_draw (hr.mono (by decide)) rfl T.g__law_draw T.k__law_draw T.bd__law_draw .nil pass0 (pa_cons (pv 0) (pa_cons pe_int pa_nil))))))
      (pss_cons (ps_set (i := 10) sc_law_free.nd rfl (Or.inl rfl) (pe_call G_law_draw (hr.mono (by decide)) rfl T.g__law_draw T.k__law_draw T.bd__law_draw .nil pass0 (pa_cons (pv 0) (pa_cons (pe_ix ix_list (pv 1) pe_int (fun _ _ => rfl)) pa_nil))))
      (pss_cons (ps_set (i := 11) sc_law_free.nd rfl (Or.inl rfl) (pe_op op_mod (pe_callTy call_int1 (by rfl) T.b_int (by decide +kernel) (pa_cons (pe_op op_add (pe_op op_add (pv 10) pe_int) (pe_call G_law_draw (hr.mono (by decide)) rfl T.g__law_draw T.k__law_draw T.bd__law_draw .nil pass0 (pa_cons (pv 0) (pa_cons (pe_op op_sub (pe_ix ix_list (pv 1) pe_int (fun _ _ => rfl)) pe_int) pa_nil)))) pa_nil)) (pe_ix ix_list (pv 1) pe_int (fun _ _ => rfl))))
      (pss_one (ps_expr (pe_bm PySem.F.plainAttrs_list PySem.F.slot_list_append PySem.F.type_list_append mt_append (pv 6) (pa_cons (pe_tup (pa_cons (pv 7) (pa_cons (pv 8) (pa_cons (pv 9) (pa_cons (pv 10) (pa_cons (pv 11) pa_nil)))))) pa_nil))))))))))
      (pss_cons (ps_for PassesOwn.never rfl (pi_range1 rfl T.b_range (pa_cons (pe_callB call_len_seq (by rfl) T.b_len (by decide +kernel) (pa_cons (pv 3) pa_nil)) pa_nil)) (pg_name (i := 12) sc_law_free.nd rfl (Or.inl rfl)) (pss_cons (ps_set (i := 13) sc_law_free.nd rfl (Or.inl rfl) (pe_ix ix_list (pe_lst (pa_cons (pe_op op_add (pv 12) pe_int) (pa_cons (pe_call G_law_draw (hr.mono (by decide)) rfl T.g__law_draw T.k__law_draw T.bd__law_draw .nil pass0 (pa_cons (pv 0) (pa_cons (pe_callB call_len_seq (by rfl) T.b_len (by decide +kernel) (pa_cons (pv 3) pa_nil)) pa_nil))) pa_nil))) (pe_callTy call_int1 (by rfl) T.b_int (by decide +kernel) (pa_cons (pe_cmpR op_gt (pe_call G_law_draw (hr.mono (by decide)) rfl T.g__law_draw T.k__law_draw T.bd__law_draw .nil pass0 (pa_cons (pv 0) (pa_cons pe_int pa_nil))) pe_int (nomark _)) pa_nil)) (fun _ _ => rfl)))
      (C8.pss_cut (ps_if (PW.pt (pw_and (pt_cmpR op_le (pv 13) (pv 12) (nomark _)) (pw_and1 (pt_cmpR op_ne (pe_ix ix_tup (pe_ix ix_list (pv 3) (pv 13) (fun _ _ => rfl)) pe_int (fun _ _ => rfl)) pe_str (nomark _))))) (pss_one (ps_set (i := 13) sc_law_free.nd rfl (Or.inl rfl) (pe_op op_add (pv 12) pe_int))) pss_nil)
      (C8.pss_cut (ps_if (pt_cmpR op_eq (pe_ix ix_tup (pe_ix ix_list (pv 3) (pv 12) (fun _ _ => rfl)) pe_int (fun _ _ => rfl)) pe_str (nomark _)) (pss_one (ps_asg (pe_tup (pa_cons pe_str (pa_cons (pv 13) pa_nil))) (pg_sub (pv 3) (pv 12) set_list))) pss_nil)
      (pss_one (ps_if (pt_cmpR op_eq (pe_ix ix_tup (pe_ix ix_list (pv 3) (pv 12) (fun _ _ => rfl)) pe_int (fun _ _ => rfl)) pe_str (nomark _)) (pss_one (ps_asg (pe_tup (pa_cons pe_str (pa_cons (pe_ix ix_tup (pe_ix ix_list (pv 3) (pv 12) (fun _ _ => rfl)) pe_int (fun _ _ => rfl)) (pa_cons (pv 13) pa_nil)))) (pg_sub (pv 3) (pv 12) set_list))) pss_nil))))))
      (pss_one (ps_ret (pe_tup (pa_cons (pe_callTy call_tuple_of (by rfl) T.b_tuple (by decide +kernel) (pa_cons (pv 3) pa_nil)) (pa_cons (pe_callTy call_tuple_of (by rfl) T.b_tuple (by decide +kernel) (pa_cons (pv 6) pa_nil)) pa_nil))))))))))), ?_⟩
    refine ⟨(by show 1 ≤ sizeLine; decide), fun t1 n1 => ⟨(by show 1 ≤ sizeLine; decide), fun C nC => ?_⟩⟩
    have nCs := (S.new n1 (o := .tup [.str "tick"])).ne nC
    have nCc := (S.new n1 (o := .tup [.str "tick"])).neC nC
    have nC0 : H C = none := by
      by_cases e : H C = none
      · exact e
      · obtain ⟨u, hu⟩ := Option.ne_none_iff_exists'.mp e
        rw [sN (Same.refl H) n1 _ _ hu] at nC; cases nC
    have g0 : Gr K H (upd (upd H t1 (.tup [.str "tick"])) C (.lst [.ref t1])) st ca C ns [.ref t1] [.tuple [.str "tick"]] := ⟨upd_same, .cons ((lay (K := K) n1 (.cons (.str "tick") .nil)).keep (KT.new nC)) .nil, one_i ((insS (by decide +kernel)).ok), (S.new n1).new nC, (Frs.refl.new n1).new nC⟩
    refine ⟨_, rfl, st, ca, ns, 14, rfl, g0.s, by decide, by decide, fun v H1 v0 v1 S1 f1 => ⟨_, _, rfl, rfl, _, rfl, by omega, by omega, ?_⟩⟩
    refine for_range (lo := 0) (n := (2 + v).toNat) (fun i σ H' => ∃ (us : List V) (cs : List PyData) (ok oc : Option V), σ = [some (.ref st), some (.ref room), some (.int res), some (.ref C), ok, oc, none, none, none, none, none, none, none, none] ∧ Gr K H H' st ca C ns us cs ∧ 1 ≤ cs.length ∧ cs.length ≤ 1 + 2 * i)
      ⟨_, _, _, _, rfl, g0.go nCs f1 S1, by decide, by decide⟩ ?_ ?_
    · rintro i σ H2 hi ⟨us, cs, ok, oc, rfl, g, c1, c2⟩
      have hul := g.d.len
      refine ⟨_, rfl, st, ca, ns, 10, rfl, g.s, by decide, by decide, fun ch H3 _ _ S3 f3 => ?_⟩
      have g3 := g.go nCs f3 S3
      have R3 := R.keep S g3.f
      have hs3 := SqL.of (K := K) g3.c
      refine ⟨_, rfl, rfl, _, rfl, ite3 (fun c => ?_) (fun c => ?_)⟩
      · refine ⟨_, rfl, .inl ⟨rfl, _, hs3⟩, (by show 1 ≤ sizeLine; decide), fun t nt => ⟨C, us, _, rfl, rfl, sN (Same.refl _) nt _ _ g3.c, by omega, ?_⟩⟩
        exact ⟨us ++ [_], cs ++ [_], _, _, rfl, (g3.add nCs nCc nC0 (Frs.refl.new nt) (S3.new nt) (.cons (lay (K := K) nt (.cons (.str "tick") .nil)) .nil) (one_i ((insS (by decide +kernel)).ok))), by simp, by simp; omega⟩
      refine ⟨_, rfl, rfl, _, rfl, ite3 (fun c => ?_) (fun c => ?_)⟩
      · refine ⟨_, rfl, .inl ⟨rfl, _, hs3⟩, ?_⟩
        refine ⟨_, rfl, _, rfl, by omega, by omega, fun D nD => ?_⟩
        have hDs := S3.ne nD
        have hDc := S3.neC nD
        refine lc_range (lo := 0) (n := res.toNat) (fun i H' => ∃ uq gs, H' D = some (.lst uq) ∧ DTs K H' uq (gs.map opD) ∧ gs.length = i ∧ StD H' st ca ns ∧ Frs st H3 H') ⟨[], [], upd_same, .nil, rfl, S3.new nD, Frs.refl.new nD⟩ ?_ ?_
        · rintro i H' hi ⟨uq, gs, hD, hus, hgl, Sq, fq⟩
          have hul := hus.len
          refine ⟨rfl, ?_⟩
          refine ⟨_, rfl, _, rfl, st, ca, room, lc, ld, ns, n, cells, called, rfl, Sq, R3.keep S3 fq, fun u g H8 du S8 f8 => ?_⟩
          have hD8 := f8 _ _ hD hDs
          refine ⟨uq, hD8, (by simp at hul; omega), uq ++ [u], gs ++ [g], upd_same, ?_, by simp [hgl], S8.upd hDs hDc, (fq.tr f8).upN nD⟩
          rw [List.map_append]
          exact ((hus.keep (Sq.kt f8)).app (.cons du .nil)).keep (KT.put hD8)
        rintro H' ⟨uq, gs, hD, hus, hgl, Sq, fq⟩
        refine ⟨D, uq, rfl, .inl ⟨SqL.of hD, fun pv npv => ?_⟩⟩
        have hv := lay npv hus
        have S8 := Sq.new npv (o := .tup uq)
        have f8 := fq.new npv (o := .tup uq)
        have F8 := g3.f.tr f8
        have R8 := R3.keep S3 f8
        clear hus hD fq Sq nD hDs hDc
        generalize upd H' pv (.tup uq) = H9 at hv S8 f8 F8 R8 ⊢
        refine ⟨(by show 2 ≤ sizeLine; decide), fun t nt => ⟨C, us, _, rfl, rfl, sN (Same.refl _) nt _ _ (f8 _ _ g3.c nCs), by omega, ?_⟩⟩
        exact ⟨us ++ [_], cs ++ [_], _, _, rfl, (g3.add nCs nCc nC0 (f8.new nt) (S8.new nt) (.cons (lay nt (.cons (.str "return") (.cons hv .nil))) .nil) (one_i ((insS (by decide +kernel)).ok))), by simp, by simp; omega⟩
      refine ⟨_, rfl, _, _, rfl, rfl, _, rfl, ite3 (fun c => ?_) (fun c => ?_)⟩
      · refine ⟨_, rfl, .inl ⟨rfl, _, hs3⟩, _, rfl, _, rfl, st, ca, room, lc, ld, ns, n, cells, called, rfl, S3, R3, fun u g4 H4 du S4 f4 => ⟨_, rfl, (by show 3 ≤ sizeLine; decide), fun t nt => ⟨C, us, _, rfl, rfl, sN (Same.refl _) nt _ _ (f4 _ _ g3.c nCs), by omega, ?_⟩⟩⟩
        exact ⟨us ++ [_], cs ++ [_], _, _, rfl, (g3.add nCs nCc nC0 (f4.new nt) (S4.new nt) (.cons (lay nt (.cons (.str "branch") (.cons du (.cons (.int (-1)) .nil)))) .nil) (one_i insB)), by simp, by simp; omega⟩
      refine ⟨_, rfl, rfl, _, rfl, ite3 (fun c => ?_) (fun c => ?_)⟩
      · refine ⟨_, rfl, .inl ⟨rfl, _, hs3⟩, _, rfl, (by show 2 ≤ sizeLine; decide), fun t nt => ⟨C, us, _, rfl, rfl, sN (Same.refl _) nt _ _ g3.c, by omega, ?_⟩⟩
        exact ⟨us ++ [_], cs ++ [_], _, _, rfl, (g3.add nCs nCc nC0 (Frs.refl.new nt) (S3.new nt) (.cons (lay (K := K) nt (.cons (.str "jump") (.cons (.int (-1)) .nil))) .nil) (one_i insJ)), by simp, by simp; omega⟩
      refine ⟨_, rfl, rfl, _, rfl, ite3 (fun c => ?_) (fun c => ?_)⟩
      · refine ⟨_, rfl, .inl ⟨rfl, _, hs3⟩, _, rfl, _, rfl, st, ca, room, lc, ld, ns, n, cells, called, rfl, S3, R3, fun u g4 H4 du S4 f4 => ⟨_, rfl, _, rfl, st, ca, room, lc, ld, ns, n, cells, called, rfl, S4, R3.keep S3 f4, fun u5 g5 H5 du5 S5 f5 => ⟨(by show 3 ≤ sizeLine; decide), fun t nt => ⟨C, us, _, rfl, rfl, sN (Same.refl _) nt _ _ (f5 _ _ (f4 _ _ g3.c nCs) nCs), by omega, ?_⟩⟩⟩⟩
        exact ⟨us ++ [_], cs ++ [_], _, _, rfl, (g3.add nCs nCc nC0 ((f4.tr f5).new nt) (S5.new nt) (.cons (lay nt (.cons (.str "again") (.cons (du.keep (S4.kt f5)) (.cons du5 .nil)))) .nil) (one_i ((insS (by decide +kernel)).ok))), by simp, by simp; omega⟩
      · refine ⟨_, rfl, .inl ⟨rfl, _, hs3⟩, _, rfl, _, rfl, st, ca, room, lc, ld, ns, n, cells, called, rfl, S3, R3, fun l cs2 H4 hl ho hle nl S4 f4 => ?_⟩
        obtain ⟨zs, hzs, dzs⟩ := hl
        have hzl := dzs.len
        refine ⟨C, l, us, zs, rfl, rfl, f4 _ _ g3.c nCs, hzs, by omega, ?_⟩
        exact ⟨us ++ zs, cs ++ cs2, _, _, rfl, g3.add nCs nCc nC0 f4 S4 dzs (fun D hD => (ho D hD).ok), by simp; omega, by simp; omega⟩
    rintro σ H2 ⟨us, cs, ok, oc, rfl, g, c1, c2⟩
    have hul := g.d.len
    have R2 := R.keep S g.f
    refine ⟨_, rfl, .inl ⟨rfl, _, SqL.of g.c⟩, ?_⟩
    refine ⟨_, rfl, _, rfl, by omega, by omega, fun D nD => ?_⟩
    have hDs := g.s.ne nD
    have hDc := g.s.neC nD
    refine lc_range (lo := 0) (n := res.toNat) (fun i H' => ∃ uq gs, H' D = some (.lst uq) ∧ DTs K H' uq (gs.map opD) ∧ gs.length = i ∧ StD H' st ca ns ∧ Frs st H2 H') ⟨[], [], upd_same, .nil, rfl, g.s.new nD, Frs.refl.new nD⟩ ?_ ?_
    · rintro i H' hi ⟨uq, gs, hD, hus, hgl, Sq, fq⟩
      have hul := hus.len
      refine ⟨rfl, ?_⟩
      refine ⟨_, rfl, _, rfl, st, ca, room, lc, ld, ns, n, cells, called, rfl, Sq, R2.keep g.s fq, fun u g H8 du S8 f8 => ?_⟩
      have hD8 := f8 _ _ hD hDs
      refine ⟨uq, hD8, (by simp at hul; omega), uq ++ [u], gs ++ [g], upd_same, ?_, by simp [hgl], S8.upd hDs hDc, (fq.tr f8).upN nD⟩
      rw [List.map_append]
      exact ((hus.keep (Sq.kt f8)).app (.cons du .nil)).keep (KT.put hD8)
    rintro H' ⟨uq, gs, hD, hus, hgl, Sq, fq⟩
    refine ⟨D, uq, rfl, .inl ⟨SqL.of hD, fun pv npv => ?_⟩⟩
    have hv := lay npv hus
    have S8 := Sq.new npv (o := .tup uq)
    have f8 := fq.new npv (o := .tup uq)
    have F8 := g.f.tr f8
    have R8 := R2.keep g.s f8
    clear hus hD fq Sq nD hDs hDc
    generalize upd H' pv (.tup uq) = H9 at hv S8 f8 F8 R8 ⊢
    refine ⟨(by show 2 ≤ sizeLine; decide), fun t nt => ⟨C, us, _, rfl, rfl, sN (Same.refl _) nt _ _ (f8 _ _ g.c nCs), by omega, ?_⟩⟩
    have gR := g.add nCs nCc nC0 (f8.new nt (o := .tup [.str "return", .ref pv])) (S8.new nt) (.cons (lay nt (.cons (.str "return") (.cons hv .nil))) .nil) (one_i ((insS (by decide +kernel)).ok))
    have hc2 : 2 ≤ (cs ++ [PyData.tuple [.str "return", .tuple (gs.map opD)]]).length := by simp; omega
    have hc3 : (cs ++ [PyData.tuple [.str "return", .tuple (gs.map opD)]]).length ≤ 40 := by simp; omega
    have hlast : ∀ D, (cs ++ [PyData.tuple [.str "return", .tuple (gs.map opD)]])[(cs ++ [PyData.tuple [.str "return", .tuple (gs.map opD)]]).length - 1]? = some D → ∃ ds, D = .tuple (.str "return" :: ds) := fun D hD => by
      rw [List.length_append, List.length_singleton, Nat.add_sub_cancel, List.getElem?_append_right (Nat.le_refl _), Nat.sub_self] at hD
      obtain rfl : PyData.tuple [.str "return", .tuple (gs.map opD)] = D := by simpa using hD
      exact ⟨_, rfl⟩
    clear g hul R2 R8 S8 F8 f8 hv nt npv c1 c2 g0
    generalize upd (upd H9 t (.tup [.str "return", .ref pv])) C (.lst (us ++ [.ref t])) = H10 at gR ⊢
    generalize cs ++ [PyData.tuple [.str "return", .tuple (gs.map opD)]] = cl at gR hc2 hc3 hlast
    generalize us ++ [V.ref t] = ul at gR
    have hul := gR.d.len
    refine ⟨by decide, fun Rg nRg => ?_⟩
    have nRs := gR.s.ne nRg
    have nRc := gR.s.neC nRg
    have nRC : C ≠ Rg := ne_of_none gR.c nRg
    have nR0 : H Rg = none := by
      by_cases e : H Rg = none
      · exact e
      · obtain ⟨u, hu⟩ := Option.ne_none_iff_exists'.mp e
        by_cases e2 : Rg = st
        · exact absurd e2 nRs
        · rw [gR.f _ _ hu e2] at nRg; cases nRg
    have gR1 := gR.go nCs (Frs.refl.new nRg (o := .lst [])) (gR.s.new nRg)
    refine ⟨_, rfl, st, ca, ns, 4, rfl, gR1.s, by decide, by decide, fun v2 H11 _ _ S11 f11 => ⟨_, rfl, by omega, by omega, ?_⟩⟩
    refine for_range (lo := 0) (n := v2.toNat) (fun i σ H' => ∃ (ok oc o7 o8 o9 o10 o11 : Option V) (ws : List V) (rs : List (List Int)), σ = [some (.ref st), some (.ref room), some (.int res), some (.ref C), ok, oc, some (.ref Rg), o7, o8, o9, o10, o11, none, none] ∧ Gr K H H' st ca C ns ul cl ∧ H' Rg = some (.lst ws) ∧ DTs K H' ws (rs.map regD) ∧ (∀ r ∈ rs, RegOk cl.length r ∧ 0 ≤ r.getD 2 0 ∧ r.getD 2 0 < (cl.length : Int)) ∧ rs.length = i)
      ⟨_, _, _, _, _, _, _, [], [], rfl, gR1.go nCs f11 S11, f11 _ _ upd_same nRs, .nil, (fun r h => nomatch h), rfl⟩ ?_ ?_
    · rintro i σ H12 hi ⟨ok, oc, o7, o8, o9, o10, o11, ws, rs, rfl, g, hw, dw, hr, hrl⟩
      have hwl := dw.len
      have R12 := R.keep S g.f
      rw [List.length_map] at hwl
      refine ⟨_, rfl, _, rfl, _, _, rfl, .inl (SqL.of g.c), _, _, rfl, rfl, st, ca, ns, (ul.length : Int) - 1, rfl, g.s, by omega, by omega, fun x1 Ha a0 a1 Sa fa => ?_⟩
      have ga := g.go nCs fa Sa
      refine ⟨_, rfl, _, _, rfl, rfl, _, rfl, _, rfl, _, _, rfl, .inl (SqL.of ga.c), _, _, rfl, rfl, _, rfl, _, _, rfl, rfl, st, ca, ns, (ul.length : Int) - 1 - x1, rfl, Sa, by omega, by omega, fun x2 Hb b0 b1 Sb fb => ⟨_, _, rfl, rfl, ?_⟩⟩
      have gb := ga.go nCs fb Sb
      refine ⟨_, rfl, _, rfl, _, rfl, _, _, rfl, .inl (SqL.of gb.c), _, rfl, _, _, rfl, rfl, st, ca, ns, (ul.length : Int) - (x1 + 1 + x2), rfl, Sb, by omega, by omega, fun x3 Hc c0 c1 Sc fc => ?_⟩
      refine ⟨_, rfl, st, ca, ns, 2, rfl, Sc, by decide, by decide, fun x4 Hd d0 d1 Sd fd => ⟨_, _, rfl, rfl, .inl ⟨by omega, by omega⟩, _, _, rfl, rfl, ?_⟩⟩
      have Rd := ((((R12.keep g.s fa).keep Sa fb).keep Sb fc).keep Sc fd)
      refine ⟨_, rfl, _, rfl, _, _, _, _, rfl, rfl, SqL.of Rd.at', rfl, st, ca, ns, n, rfl, Sd, by omega, by omega, fun x5 He e0 e1 Se fe => ?_⟩
      have Re := Rd.keep Sd fe
      refine ⟨_, rfl, _, _, rfl, rfl, _, rfl, _, rfl, _, _, _, _, rfl, rfl, SqL.of Re.at', rfl, _, _, rfl, rfl, st, ca, ns, n - 1, rfl, Se, by omega, by omega, fun x6 Hf f0 f1 Sf ff => ⟨_, _, rfl, rfl, .inl ⟨_, rfl, ?_⟩⟩⟩
      have Rf := Re.keep Se ff
      refine ⟨_, rfl, _, _, _, _, rfl, rfl, SqL.of Rf.at', rfl, _, _, rfl, rfl, (by show 0 < n; omega), ?_⟩
      have fall := ((((fa.tr fb).tr fc).tr fd).tr fe).tr ff
      have gf := g.go nCs fall Sf
      have hwf := fall _ _ hw nRs
      refine ⟨_, rfl, .inl ⟨rfl, _, SqL.of hwf⟩, _, rfl, _, rfl, _, rfl, _, rfl, _, rfl, (by show 5 ≤ sizeLine; decide), fun t nt => ⟨Rg, ws, _, rfl, rfl, sN (Same.refl _) nt _ _ hwf, by omega, ?_⟩⟩
      refine ⟨_, _, _, _, _, _, _, ws ++ [.ref t], rs ++ [[x1, x1 + 1 + x2, x1 + 1 + x2 + x3 * x4, x5, (x5 + 1 + x6) % n]], rfl, ?_, upd_same, ?_, fun r hr' => ?_, by simp [hrl]⟩
      · refine ⟨by rw [upd_ne nRC]; exact sN (Same.refl _) nt _ _ gf.c, (gf.d.keep (KT.new nt)).keep (KT.put (sN (Same.refl _) nt _ _ hwf)), gf.i, (gf.s.new nt).upd nRs nRc, (gf.f.new nt).upN nR0⟩
      · rw [List.map_append]
        exact (((dw.keep (g.s.kt fall)).keep (KT.new nt)).app (.cons (lay nt (.cons (.int _) (.cons (.int _) (.cons (.int _) (.cons (.int _) (.cons (.int _) .nil)))))) .nil)).keep (KT.put (sN (Same.refl _) nt _ _ hwf))
      · rcases List.mem_append.mp hr' with h | h
        · exact hr r h
        · rw [List.mem_singleton.mp h]
          have hx : x3 * x4 = 0 ∨ x3 * x4 = x3 := by
            rcases (show x4 = 0 ∨ x4 = 1 by omega) with e | e
            · left; rw [e, Int.mul_zero]
            · right; rw [e, Int.mul_one]
          refine ⟨⟨rfl, a0, ?_, ?_, ?_⟩, ?_, ?_⟩
          · show x1 ≤ _; omega
          · show 0 ≤ x1 + 1 + x2; omega
          · show x1 + 1 + x2 ≤ _; omega
          · show 0 ≤ x1 + 1 + x2 + x3 * x4; omega
          · show x1 + 1 + x2 + x3 * x4 < _; omega
    rintro σ H12 ⟨ok, oc, o7, o8, o9, o10, o11, ws, rs, rfl, g, hw, dw, hr, hrl⟩
    have hwl := dw.len
    rw [List.length_map] at hwl
    refine ⟨_, rfl, _, _, rfl, .inl (SqL.of g.c), _, rfl, by omega, by omega, ?_⟩
    refine for_range (lo := 0) (n := ((ul.length : Nat) : Int).toNat) (fun i σ H' => ∃ (o12 o13 : Option V) (us : List V) (cs : List PyData), σ = [some (.ref st), some (.ref room), some (.int res), some (.ref C), ok, oc, some (.ref Rg), o7, o8, o9, o10, o11, o12, o13] ∧ Gr K H H' st ca C ns us cs ∧ cs.length = cl.length ∧ H' Rg = some (.lst ws) ∧ DTs K H' ws (rs.map regD) ∧ FrI cl.length i cs)
      ⟨_, _, ul, cl, rfl, g, rfl, hw, dw, ⟨fun m D hm => by omega, hlast⟩⟩ ?_ ?_
    · rintro i σ H13 hi ⟨o12, o13, us, cs, rfl, g, hcl, hw, dw, fr⟩
      have hus := g.d.len
      have hi' : i < us.length := by omega
      have e0 : (0 : Int) + (i : Int) = (i : Int) := Int.zero_add _
      rw [e0]
      refine ⟨_, rfl, _, _, rfl, rfl, _, rfl, _, rfl, _, _, rfl, .inl (SqL.of g.c), st, ca, ns, (us.length : Int), rfl, g.s, by omega, by omega, fun x1 Ha a0 a1 Sa fa => ⟨(by show 2 ≤ sizeLine; decide), fun l nl => ?_⟩⟩
      refine ⟨_, rfl, st, ca, ns, 4, rfl, Sa.new nl, by decide, by decide, fun x2 Hb b0 b1 Sb fb => ⟨_, _, rfl, rfl, .inr ⟨_, rfl, ?_⟩⟩⟩
      have hl := fb l _ upd_same (Sa.ne nl)
      obtain ⟨tg, hat, t0, t1⟩ : ∃ tg : Int, (tg = (i : Int) + 1 ∨ tg < (us.length : Int)) ∧ 0 ≤ tg ∧ atI [V.int ((i : Int) + 1), V.int x1] (if decide ((0 : Int) < x2) then 1 else 0) = some (.int tg) := by
        cases decide ((0 : Int) < x2)
        · exact ⟨_, .inl rfl, by omega, rfl⟩
        · exact ⟨_, .inr a1, a0, rfl⟩
      refine ⟨_, _, _, _, rfl, rfl, SqL.of hl, t1, ?_⟩
      have fab := (fa.new nl (o := .lst [V.int ((i : Int) + 1), V.int x1])).tr fb
      have gb := g.go nCs fab Sb
      have hwb := fab _ _ hw nRs
      have dwb := dw.keep (g.s.kt fab)
      clear hl t1 fab fa fb Sa Sb g nl hw dw
      refine ⟨fun σ H' => ∃ tg2 : Int, σ = [some (.ref st), some (.ref room), some (.int res), some (.ref C), ok, oc, some (.ref Rg), o7, o8, o9, o10, o11, some (.int (i : Int)), some (.int tg2)] ∧ H' = Hb ∧ 0 ≤ tg2 ∧ (tg2 = (i : Int) + 1 ∨ tg2 < (us.length : Int)), ?_, ?_⟩
      · refine ⟨_, rfl, _, rfl, _, _, rfl, rfl, _, rfl, ite3 (fun c => ?_) (fun c => iteF ⟨_, rfl, rfl, t0, hat⟩)⟩
        have hle : tg ≤ (i : Int) := of_decide_eq_true c
        obtain ⟨tn, rfl⟩ : ∃ tn : Nat, tg = (tn : Int) := ⟨tg.toNat, by omega⟩
        have htn : tn < cs.length := by omega
        obtain ⟨v1, e1, d1⟩ := gb.d.it tn (List.getElem?_eq_getElem htn)
        obtain ⟨nm, ds, ei, _, _⟩ := gb.i _ (List.getElem_mem htn)
        rw [ei] at d1
        obtain ⟨pa, xs, rfl, hxs, hd⟩ := d1.ts
        obtain ⟨v2, e2, d2⟩ := hd.it 0 (d := .str nm) rfl
        cases d2.s
        refine ⟨_, rfl, _, rfl, _, _, _, _, rfl, rfl, SqL.of gb.c, e1, _, _, _, _, rfl, rfl, hxs, e2, rfl, _, rfl, ite3 (fun c => ?_) (fun c => ⟨_, rfl, rfl, t0, hat⟩)⟩
        exact ⟨_, rfl, _, _, rfl, rfl, _, rfl, rfl, by omega, .inl rfl⟩
      rintro σ H' ⟨tg2, rfl, rfl, q0, q1⟩
      have hic : i < cs.length := by omega
      obtain ⟨v1, e1, d1⟩ := gb.d.it i (List.getElem?_eq_getElem hic)
      obtain ⟨nm, ds, ei, j1, j2⟩ := gb.i _ (List.getElem_mem hic)
      rw [ei] at d1
      obtain ⟨pa, xs, rfl, hxs, hd⟩ := d1.ts
      obtain ⟨v2, e2, d2⟩ := hd.it 0 (d := .str nm) rfl
      cases d2.s
      refine ⟨fun σ H2 => ∃ (us : List V) (cs : List PyData), σ = [some (.ref st), some (.ref room), some (.int res), some (.ref C), ok, oc, some (.ref Rg), o7, o8, o9, o10, o11, some (.int (i : Int)), some (.int tg2)] ∧ Gr K H H2 st ca C ns us cs ∧ cs.length = cl.length ∧ H2 Rg = some (.lst ws) ∧ DTs K H2 ws (rs.map regD) ∧ FrI cl.length i cs ∧ (∀ D, cs[i]? = some D → nmOf D = "jump" → InsA cl.length i D) ∧ (tg2 = (i : Int) + 1 ∨ tg2 < (cl.length : Int)), ?_, ?_⟩
      · refine ⟨_, rfl, _, rfl, _, _, _, _, rfl, rfl, SqL.of gb.c, e1, _, _, _, _, rfl, rfl, hxs, e2, rfl, _, rfl, ite3 (fun c => ?_) (fun c => ⟨us, cs, rfl, gb, hcl, hwb, dwb, fr, fun D hD hn => ?_, by omega⟩)⟩
        rotate_left
        · rw [List.getElem?_eq_getElem hic] at hD
          obtain rfl : cs[i] = D := by injection hD
          exact absurd ((nm_tup ei).symm.trans hn) (str_dec' c)
        refine ⟨_, rfl, (by show 2 ≤ sizeLine; decide), fun t nt => ⟨_, rfl, _, rfl, C, us, _, i, rfl, rfl, sN (Same.refl _) nt _ _ gb.c, ixN_nat hi', ?_⟩⟩
        have s1 := sN (Same.refl H') nt (o := .tup [.str "jump", .int tg2])
        have hlt := fr.lt (by omega) (by rw [List.getElem?_eq_getElem hic, ei]) (fun e => absurd ((str_dec c).symm.trans e) (by decide +kernel))
        exact ⟨_, _, rfl, gb.set nCs nCc nC0 nt (.cons (.str _) (.cons (.int _) .nil)) insJ i, by simp [hcl], by rw [upd_ne nRC.symm]; exact s1 _ _ hwb, (dwb.keep (KT.same s1)).keep (KT.put (s1 _ _ gb.c)), fr.set hlt, fun D hD _ => by
          rw [List.getElem?_set_self (by omega)] at hD
          injection hD with hD
          rw [← hD]
          exact aJ q0 (by omega), by omega⟩
      clear gb hwb dwb hus hi' hic e1 ei hcl e2 hd hxs j1 j2 q1 fr
      rintro σ H2 ⟨us, cs, rfl, gb, hcl, hwb, dwb, fr, frj, q1⟩
      have hus := gb.d.len
      have hi' : i < us.length := by omega
      have hic : i < cs.length := by omega
      obtain ⟨v1, e1, d1⟩ := gb.d.it i (List.getElem?_eq_getElem hic)
      obtain ⟨nm, ds, ei, j1, j2⟩ := gb.i _ (List.getElem_mem hic)
      rw [ei] at d1
      obtain ⟨pa, xs, rfl, hxs, hd⟩ := d1.ts
      obtain ⟨v2, e2, d2⟩ := hd.it 0 (d := .str nm) rfl
      cases d2.s
      refine ⟨_, rfl, _, rfl, _, _, _, _, rfl, rfl, SqL.of gb.c, e1, _, _, _, _, rfl, rfl, hxs, e2, rfl, _, rfl, ite3 (fun c => ?_) (fun c => ⟨_, _, us, cs, rfl, gb, hcl, hwb, dwb, fr.nxt (List.getElem?_eq_getElem hic) ?_⟩)⟩
      rotate_left
      · by_cases ej : nm = "jump"
        · exact frj _ (List.getElem?_eq_getElem hic) ((nm_tup ei).trans ej)
        · rw [ei]
          refine aN' ej (str_dec' c) fun hn => fr.lt (by omega) (by rw [List.getElem?_eq_getElem hic, ei]) (fun e => ?_)
          rw [e] at hn
          exact absurd hn (by decide +kernel)
      obtain ⟨tt, ett⟩ := j2 (str_dec c)
      have hdl : 2 ≤ ds.length := by
        have := (List.getElem?_eq_some_iff.mp ett).1
        omega
      obtain ⟨v3, e3, d3⟩ := hd.it 1 (d := ds[0]) (by simp)
      refine ⟨_, rfl, _, rfl, _, _, _, _, rfl, rfl, SqL.of gb.c, e1, _, _, _, _, rfl, rfl, hxs, e3, _, rfl, (by show 3 ≤ sizeLine; decide), fun t nt => ⟨_, rfl, _, rfl, C, us, _, i, rfl, rfl, sN (Same.refl _) nt _ _ gb.c, ixN_nat hi', ?_⟩⟩
      have s1 := sN (Same.refl H2) nt (o := .tup [.str "branch", v3, .int tg2])
      have hlt := fr.lt (by omega) (by rw [List.getElem?_eq_getElem hic, ei]) (fun e => absurd ((str_dec c).symm.trans e) (by decide +kernel))
      exact ⟨_, _, _, _, rfl, gb.set nCs nCc nC0 nt (.cons (.str _) (.cons d3 (.cons (.int _) .nil))) insB i, by simp [hcl], by rw [upd_ne nRC.symm]; exact s1 _ _ hwb, (dwb.keep (KT.same s1)).keep (KT.put (s1 _ _ gb.c)), (fr.set hlt).nxt (List.getElem?_set_self (by omega)) (aB q0 (by omega) hlt)⟩
    rintro σ H13 ⟨o12, o13, us, cs, rfl, g, hcl, hw, dw, fr⟩
    refine ⟨_, rfl, C, us, rfl, .inl ⟨SqL.of g.c, fun tc ntc => ?_⟩⟩
    have s1 := sN (Same.refl H13) ntc (o := .tup us)
    refine ⟨_, rfl, Rg, ws, rfl, .inl ⟨SqL.of (s1 _ _ hw), fun tr ntr => ⟨(by show 2 ≤ sizeLine; decide), fun pu npu => ?_⟩⟩⟩
    have s2 := sN (Same.refl _) ntr (o := .tup ws)
    have d1 := (lay ntc g.d).keep (KT.same s2)
    have d2 := lay ntr (dw.keep (KT.same s1))
    exact q _ cs rs _ (lay npu (.cons d1 (.cons d2 .nil))) ⟨g.i, fun r hr' => by rw [hcl]; exact (hr r hr').1, by omega, by omega, fun m D hD => by
      have hm := (List.getElem?_eq_some_iff.mp hD).1
      rw [hcl]
      exact fr.d m D (by omega) hD, fun r hr' => by rw [hcl]; exact (hr r hr').2, by omega⟩ (g.s.same (sTr s1 (sTr s2 (sN (Same.refl _) npu)))) (g.f.tr (Frs.of (sTr s1 (sTr s2 (sN (Same.refl _) npu)))))
theorem ok_law_any_code (T : Txt K mg a) : FnOk P w K mg base CX0 22 a.f_law_any_code a.d_law_any_code ["state", "room", "results"] (spCodeL K) := by
  have G_law_draw : FnOk P w K mg base CX0 3 _ _ _ _ := ok_law_draw T
  have G_law_free : FnOk P w K mg base CX0 8 _ _ _ _ := ok_law_free T
  have G_law_code : FnOk P w K mg base CX0 21 _ _ _ _ := ok_law_code T
  refine T.F__law_any_code.ok sc_law_any_code (fun vs H Q E h => ?_) (fun cdv A outer s H vs Q E hr h => ?_)
  · obtain ⟨_, _, _, _, _, _, _, _, _, _, rfl, _⟩ := h; rfl
  · obtain ⟨st, ca, room, lc, ld, ns, n, cells, called, res, rfl, S, R, r0, r1, q⟩ := h
    refine ⟨_, (pss_cons (ps_if (pt_cmpR op_eq (pe_call G_law_draw (hr.mono (by decide)) rfl T.g__law_draw T.k__law_draw T.bd__law_draw .nil pass0 (pa_cons (pv 0) (pa_cons pe_int pa_nil))) pe_int (nomark _)) (pss_one (ps_ret (pe_call G_law_free (hr.mono (by decide)) rfl T.g__law_free T.k__law_free T.bd__law_free .nil pass0 (pa_cons (pv 0) (pa_cons (pv 1) (pa_cons (pv 2) pa_nil)))))) pss_nil)
      (pss_one (ps_ret (pe_call G_law_code (hr.mono (by decide)) rfl T.g__law_code T.k__law_code T.bd__law_code .nil pass0 (pa_cons (pv 0) (pa_cons (pv 1) (pa_cons (pv 2) pa_nil))))))), ?_⟩
    refine ⟨_, rfl, st, ca, ns, 2, rfl, S, by decide, by decide, fun v H1 _ _ S1 f1 => ?_⟩
    refine ⟨rfl, _, rfl, ite3 (fun c => ?_) (fun c => ?_)⟩
    · exact ⟨_, rfl, _, rfl, _, rfl, st, ca, room, lc, ld, ns, n, cells, called, res, rfl, S1, R.keep S f1, r0, r1, fun u cs rs H2 d o S2 f2 => q u cs rs H2 d o S2 (f1.tr f2)⟩
    · exact ⟨_, rfl, _, rfl, _, rfl, st, ca, room, lc, ld, ns, n, cells, called, res, rfl, S1, R.keep S f1, r0, r1, fun u cs rs H2 d o S2 f2 => q u cs rs H2 d o S2 (f1.tr f2)⟩
end

/-! ### heads -/
def HeadOk (k : Nat) (r : List Int) : Prop := r.length = 5 ∧ -1 ≤ r.getD 0 0 ∧ r.getD 0 0 < (k : Int) ∧ 0 ≤ r.getD 1 0 ∧ r.getD 1 0 ≤ 6 ∧ 0 ≤ r.getD 2 0 ∧ r.getD 2 0 ≤ 6 ∧ 6 ≤ r.getD 3 0 ∧ r.getD 3 0 ≤ 20 ∧ 0 ≤ r.getD 4 0 ∧ r.getD 4 0 ≤ 4
def HeadsOk (hs : List (List Int)) : Prop := ∀ k r, hs[k]? = some r → HeadOk k r
def RowsAt (K : PySem.W.Frag) (H : Hp) (l : Addr) (ds : List PyData) : Prop := ∃ us, H l = some (.lst us) ∧ DTs K H us ds
theorem RowsAt.same {K : PySem.W.Frag} {H H' : Hp} {l : Addr} {ds : List PyData} (h : RowsAt K H l ds) (s : Same H H') : RowsAt K H' l ds := by
  obtain ⟨us, e, d⟩ := h
  exact ⟨us, s _ _ e, d.keep (KT.same s)⟩
theorem RowsAt.frs {K : PySem.W.Frag} {H H' : Hp} {st ca l : Addr} {ns : List Int} {ds : List PyData} (h : RowsAt K H l ds) (S : StD H st ca ns) (f : Frs st H H') (n : l ≠ st) : RowsAt K H' l ds := by
  obtain ⟨us, e, d⟩ := h
  exact ⟨us, f _ _ e n, d.keep (S.kt f)⟩
def spHeads (K : PySem.W.Frag) : Sp := fun vs H Q _ => ∃ (st ca : Addr) (ns : List Int) (m : Int), vs = [.ref st, .int m] ∧ StD H st ca ns ∧ 1 ≤ m ∧ m ≤ 4 ∧ ∀ (l : Addr) (hs : List (List Int)) (H' : Hp), RowsAt K H' l (hs.map regD) → HeadsOk hs → hs.length = m.toNat → l ≠ st → StD H' st ca ns → Frs st H H' → Q (.ref l) H'
def spAround (K : PySem.W.Frag) : Sp := fun vs H Q _ => ∃ (l : Addr) (hs : List (List Int)) (n : Int), vs = [.ref l, .int n] ∧ RowsAt K H l (hs.map regD) ∧ HeadsOk hs ∧ hs.length ≤ 4 ∧ 0 ≤ n ∧ n < hs.length ∧ ∀ (L : Addr) (js : List Int) (H' : Hp), H L = none → H' L = some (.lst (js.map V.int)) → js.length ≤ 5 → (∀ j ∈ js, 0 ≤ j ∧ j < hs.length) → Same H H' → Q (.ref L) H'
theorem last_int {js : List Int} {j : Int} : atI ((js ++ [j]).map V.int) (-1) = some (.int j) := by
  unfold atI
  have : ixN ((js ++ [j]).map V.int).length (-1) = some js.length := by
    unfold ixN
    simp
    omega
  rw [this]
  simp
section
variable {P : Program} {w : World} {K : PySem.W.Frag} {mg : Str → Option Value} {base : Heap} {a : Ad}
theorem ok_law_heads (T : Txt K mg a) : FnOk P w K mg base CX0 4 a.f_law_heads a.d_law_heads ["state", "many"] (spHeads K) := by
  have G_law_draw : FnOk P w K mg base CX0 3 _ _ _ _ := ok_law_draw T
  refine T.F__law_heads.ok sc_law_heads (fun vs H Q E h => ?_) (fun cdv A outer s H vs Q E hr h => ?_)
  · obtain ⟨_, _, _, _, rfl, _⟩ := h; rfl
  · obtain ⟨st, ca, ns, m, rfl, S, m1, m4, q⟩ := h
    have hz := sizeLine_eq
    refine ⟨_, (pss_cons (ps_set (i := 2) sc_law_heads.nd rfl (Or.inl rfl) (pe_lst pa_nil))
      (pss_cons (ps_for PassesOwn.never rfl (pi_range1 rfl T.b_range (pa_cons (pv 1) pa_nil)) (pg_name (i := 3) sc_law_heads.nd rfl (Or.inl rfl)) (pss_cons (ps_set (i := 4) sc_law_heads.nd rfl (Or.inl rfl) (pe_call G_law_draw (hr.mono (by decide)) rfl T.g__law_draw T.k__law_draw T.bd__law_draw .nil pass0 (pa_cons (pv 0) (pa_cons pe_int pa_nil))))
      (pss_cons (ps_set (i := 5) sc_law_heads.nd rfl (Or.inl rfl) (pe_call G_law_draw (hr.mono (by decide)) rfl T.g__law_draw T.k__law_draw T.bd__law_draw .nil pass0 (pa_cons (pv 0) (pa_cons pe_int pa_nil))))
      (C8.pss_cut (ps_if (pt_cmpR op_eq (pv 3) pe_int (nomark _)) (pss_cons (ps_set (i := 4) sc_law_heads.nd rfl (Or.inl rfl) pe_int)
      (pss_one (ps_set (i := 5) sc_law_heads.nd rfl (Or.inl rfl) pe_int))) pss_nil)
      (pss_cons (ps_set (i := 6) sc_law_heads.nd rfl (Or.inl rfl) (pe_un un_neg pe_int))
      (C8.pss_cut (ps_if (pt_cmpR op_gt (pv 3) pe_int (nomark _)) (pss_one (ps_set (i := 6) sc_law_heads.nd rfl (Or.inl rfl) (pe_call G_law_draw (hr.mono (by decide)) rfl T.g__law_draw T.k__law_draw T.bd__law_draw .nil pass0 (pa_cons (pv 0) (pa_cons (pv 3) pa_nil))))) pss_nil)
      (pss_one (ps_expr (pe_bm PySem.F.plainAttrs_list PySem.F.slot_list_append PySem.F.type_list_append mt_append (pv 2) (pa_cons (pe_tup (pa_cons (pv 6) (pa_cons (pv 4) (pa_cons (pv 5) (pa_cons (pe_op op_add pe_int (pe_call G_law_draw (hr.mono (by decide)) rfl T.g__law_draw T.k__law_draw T.bd__law_draw .nil pass0 (pa_cons (pv 0) (pa_cons pe_int pa_nil)))) (pa_cons (pe_call G_law_draw (hr.mono (by decide)) rfl T.g__law_draw T.k__law_draw T.bd__law_draw .nil pass0 (pa_cons (pv 0) (pa_cons pe_int pa_nil))) pa_nil)))))) pa_nil))))))))))
      (pss_one (ps_ret (pv 2))))), ?_⟩
    refine ⟨by decide, fun L nL => ⟨_, rfl, _, rfl, by omega, by omega, ?_⟩⟩
    have nLs := S.ne nL
    have nLc := S.neC nL
    refine for_range (lo := 0) (n := m.toNat) (fun i σ H' => ∃ (o3 o4 o5 o6 : Option V) (us : List V) (hs : List (List Int)), σ = [some (.ref st), some (.int m), some (.ref L), o3, o4, o5, o6] ∧ H' L = some (.lst us) ∧ DTs K H' us (hs.map regD) ∧ HeadsOk hs ∧ hs.length = i ∧ StD H' st ca ns ∧ Frs st H H')
      ⟨_, _, _, _, [], [], rfl, upd_same, .nil, (fun k r h => by simp at h), rfl, S.new nL, Frs.refl.new nL⟩ ?_ ?_
    · rintro i σ H1 hi ⟨o3, o4, o5, o6, us, hs, rfl, hL, dus, ho, hl, S1, f1⟩
      have hul := dus.len
      rw [List.length_map] at hul
      have e0 : (0 : Int) + (i : Int) = (i : Int) := Int.zero_add _
      rw [e0]
      refine ⟨_, rfl, st, ca, ns, 7, rfl, S1, by decide, by decide, fun ar H2 a0 a1 S2 f2 => ?_⟩
      refine ⟨_, rfl, st, ca, ns, 7, rfl, S2, by decide, by decide, fun re H3 b0 b1 S3 f3 => ?_⟩
      have f13 := f2.tr f3
      refine ⟨fun σ H' => H' = H3 ∧ ∃ x y : Int, σ = [some (.ref st), some (.int m), some (.ref L), some (.int (i : Int)), some (.int x), some (.int y), o6] ∧ 0 ≤ x ∧ x ≤ 6 ∧ 0 ≤ y ∧ y ≤ 6, ?_, ?_⟩
      · refine ⟨_, rfl, rfl, _, rfl, ite3 (fun c => ?_) (fun c => ⟨rfl, _, _, rfl, by omega, by omega, by omega, by omega⟩)⟩
        exact ⟨rfl, _, _, rfl, by omega, by omega, by omega, by omega⟩
      rintro σ H' ⟨rfl, x, y, rfl, x0, x1, y0, y1⟩
      refine ⟨_, rfl, ?_⟩
      refine ⟨fun σ H4 => ∃ pp : Int, σ = [some (.ref st), some (.int m), some (.ref L), some (.int (i : Int)), some (.int x), some (.int y), some (.int pp)] ∧ -1 ≤ pp ∧ pp < (i : Int) ∧ StD H4 st ca ns ∧ Frs st H' H4, ?_, ?_⟩
      · refine ⟨_, rfl, _, _, rfl, rfl, _, rfl, ite3 (fun c => ?_) (fun c => ⟨_, rfl, by omega, by omega, S3, Frs.refl⟩)⟩
        have hi0 : (0 : Int) < (i : Int) := of_decide_eq_true c
        exact ⟨_, rfl, _, rfl, st, ca, ns, (i : Int), rfl, S3, by omega, by omega, fun v H4 v0 v1 S4 f4 => ⟨_, rfl, by omega, by omega, S4, f4⟩⟩
      rintro σ H4 ⟨pp, rfl, p0, p1, S4, f4⟩
      have f14 := f13.tr f4
      refine ⟨_, rfl, .inl ⟨rfl, _, SqL.of (f14 _ _ hL nLs)⟩, _, rfl, _, rfl, _, rfl, _, rfl, st, ca, ns, 14, rfl, S4, by decide, by decide, fun v5 H5 c0 c1 S5 f5 => ⟨_, _, rfl, rfl, _, rfl, st, ca, ns, 5, rfl, S5, by decide, by decide, fun v6 H6 d0 d1 S6 f6 => ⟨(by show 5 ≤ sizeLine; decide), fun t nt => ?_⟩⟩⟩
      have fA := (f14.tr f5).tr f6
      have hL6 := sN (Same.refl H6) nt (o := .tup [.int pp, .int x, .int y, .int (6 + v5), .int v6]) _ _ (fA _ _ hL nLs)
      refine ⟨L, us, _, rfl, rfl, hL6, by omega, ?_⟩
      refine ⟨_, _, _, _, us ++ [.ref t], hs ++ [[pp, x, y, 6 + v5, v6]], rfl, upd_same, ?_, fun k r hk => ?_, by simp [hl], (S6.new nt).upd nLs nLc, ((f1.tr fA).new nt).upN nL⟩
      · rw [List.map_append]
        exact (((dus.keep (S1.kt fA)).keep (KT.new nt)).app (.cons (lay nt (.cons (.int _) (.cons (.int _) (.cons (.int _) (.cons (.int _) (.cons (.int _) .nil)))))) .nil)).keep (KT.put hL6)
      · by_cases e : k < hs.length
        · rw [List.getElem?_append_left e] at hk
          exact ho k r hk
        · have hk2 : k = hs.length := by
            have := (List.getElem?_eq_some_iff.mp hk).1
            simp at this
            omega
          subst hk2
          rw [List.getElem?_append_right (Nat.le_refl _), Nat.sub_self] at hk
          obtain rfl : [pp, x, y, 6 + v5, v6] = r := by simpa using hk
          refine ⟨rfl, p0, ?_, x0, x1, y0, y1, ?_, ?_, d0, ?_⟩
          · show pp < _; omega
          · show 6 ≤ 6 + v5; omega
          · show 6 + v5 ≤ 20; omega
          · show v6 ≤ 4; omega
    · rintro σ H1 ⟨o3, o4, o5, o6, us, hs, rfl, hL, dus, ho, hl, S1, f1⟩
      exact ⟨_, rfl, q L hs H1 ⟨us, hL, dus⟩ ho hl nLs S1 f1⟩
theorem ok_law_around (T : Txt K mg a) : FnOk P w K mg base CX0 1 a.f_law_around a.d_law_around ["heads", "number"] (spAround K) := by
  refine T.F__law_around.ok sc_law_around (fun vs H Q E h => ?_) (fun cdv A outer s H vs Q E hr h => ?_)
  · obtain ⟨_, _, _, rfl, _⟩ := h; rfl
  · obtain ⟨l, hs, n, rfl, ⟨us, hl, dus⟩, ho, h4, n0, n1, q⟩ := h
    have hz := sizeLine_eq
    have hul := dus.len
    rw [List.length_map] at hul
    refine ⟨_, (pss_cons (ps_set (i := 2) sc_law_around.nd rfl (Or.inl rfl) (pe_lst (pa_cons (pv 1) pa_nil)))
      (pss_cons (ps_for PassesOwn.never rfl (pi_range1 rfl T.b_range (pa_cons (pe_callB call_len_seq (by rfl) T.b_len (by decide +kernel) (pa_cons (pv 0) pa_nil)) pa_nil)) (pg_name (i := 3) sc_law_around.nd rfl (Or.inl rfl)) (pss_one (ps_if (pt_cmpR op_ge (pe_ix ix_tup (pe_ix ix_list (pv 0) (pe_ix ix_list (pv 2) (pe_un un_neg pe_int) (fun _ _ => rfl)) (fun _ _ => rfl)) pe_int (fun _ _ => rfl)) pe_int (nomark _)) (pss_one (ps_expr (pe_bm PySem.F.plainAttrs_list PySem.F.slot_list_append PySem.F.type_list_append mt_append (pv 2) (pa_cons (pe_ix ix_tup (pe_ix ix_list (pv 0) (pe_ix ix_list (pv 2) (pe_un un_neg pe_int) (fun _ _ => rfl)) (fun _ _ => rfl)) pe_int (fun _ _ => rfl)) pa_nil)))) pss_nil)))
      (pss_one (ps_ret (pv 2))))), ?_⟩
    refine ⟨_, rfl, (by show 1 ≤ sizeLine; decide), fun L nL => ⟨_, rfl, _, _, rfl, .inl (SqL.of (sN (Same.refl H) nL _ _ hl)), _, rfl, by omega, by omega, ?_⟩⟩
    have nlL : l ≠ L := ne_of_none hl nL
    refine for_range (lo := 0) (n := ((us.length : Nat) : Int).toNat) (fun i σ H' => ∃ (o : Option V) (js : List Int) (j : Int), σ = [some (.ref l), some (.int n), some (.ref L), o] ∧ H' L = some (.lst ((js ++ [j]).map V.int)) ∧ js.length ≤ i ∧ (∀ x ∈ js ++ [j], 0 ≤ x ∧ x < hs.length) ∧ Same H H')
      ⟨_, [], n, rfl, upd_same, Nat.le_refl _, fun x hx => by rw [List.mem_singleton.mp hx]; exact ⟨n0, n1⟩, sN (Same.refl H) nL⟩ ?_ ?_
    · rintro i σ H1 hi ⟨o, js, j, rfl, hL, hjl, hj, ss⟩
      obtain ⟨j0, j1⟩ := hj j (by simp)
      obtain ⟨jn, rfl⟩ : ∃ k : Nat, j = (k : Int) := ⟨j.toNat, by omega⟩
      have hjn : jn < hs.length := by omega
      obtain ⟨v1, e1, d1⟩ := dus.it jn (d := regD hs[jn]) (by simp [hjn])
      obtain ⟨h5, g0, g1, _⟩ := ho jn hs[jn] (List.getElem?_eq_getElem hjn)
      obtain ⟨pr, ys, rfl, hys, dys⟩ := (d1.keep (KT.same ss)).ts
      obtain ⟨u0, e0, k0⟩ := dys.it 0 (ints_get (r := hs[jn]) (i := 0) (by omega))
      cases k0.i
      refine ⟨_, rfl, _, rfl, _, rfl, _, _, _, _, rfl, rfl, SqL.of hL, last_int, _, _, _, _, rfl, rfl, SqL.of (ss _ _ hl), e1, _, _, _, _, rfl, rfl, hys, e0, _, _, rfl, rfl, _, rfl, ite3 (fun c => ?_) (fun c => ?_)⟩
      · have hc : hs[jn].getD 0 0 ≥ 0 := of_decide_eq_true c
        refine ⟨_, rfl, .inl ⟨rfl, _, SqL.of hL⟩, _, rfl, _, rfl, _, rfl, _, _, _, _, rfl, rfl, SqL.of hL, last_int, _, _, _, _, rfl, rfl, SqL.of (ss _ _ hl), e1, _, _, _, _, rfl, rfl, hys, e0, L, _, _, rfl, rfl, hL, (by simp; omega), ?_⟩
        refine ⟨_, js ++ [(jn : Int)], hs[jn].getD 0 0, rfl, by rw [upd_same]; simp, by simp; omega, fun x hx => ?_, sUpd ss nL⟩
        rcases List.mem_append.mp hx with h | h
        · exact hj x h
        · rw [List.mem_singleton.mp h]
          exact ⟨hc, by omega⟩
      · exact ⟨_, js, (jn : Int), rfl, hL, by omega, hj, ss⟩
    · rintro σ H1 ⟨o, js, j, rfl, hL, hjl, hj, ss⟩
      exact ⟨_, rfl, q L (js ++ [j]) H1 nL hL (by simp; omega) hj ss⟩
end

/-! ### codes -/
def codeD (c : List PyData × List (List Int)) : PyData := .tuple [.tuple c.1, .tuple (c.2.map regD)]
def spCodesL (K : PySem.W.Frag) : Sp := fun vs H Q _ => ∃ (st ca l : Addr) (ns : List Int) (hs : List (List Int)), vs = [.ref st, .ref l] ∧ StD H st ca ns ∧ RowsAt K H l (hs.map regD) ∧ HeadsOk hs ∧ hs.length ≤ 4 ∧ l ≠ st ∧ ∀ (L : Addr) (cds : List (List PyData × List (List Int))) (H' : Hp), RowsAt K H' L (cds.map codeD) → (∀ c ∈ cds, CodeOk c.1 c.2) → cds.length = hs.length → L ≠ st → StD H' st ca ns → Frs st H H' → Q (.ref L) H'
theorem inV_ints {j : Int} {js : List Int} (h : inV (.int j) (js.map V.int) = true) : ∃ i : Nat, js[i]? = some j ∧ ∀ m x, m < i → js[m]? = some x → x ≠ j := by
  unfold inV at h
  induction js with
  | nil => cases h
  | cons a t ih =>
    by_cases e : a = j
    · exact ⟨0, by rw [e]; rfl, fun m x hm => by omega⟩
    · rw [List.map_cons, List.any_cons] at h
      have : eqV (V.int a) (V.int j) = false := by simp [eqV, e]
      rw [this, Bool.false_or] at h
      obtain ⟨i, hi, hn⟩ := ih h
      refine ⟨i + 1, by simpa using hi, fun m x hm hx => ?_⟩
      cases m with
      | zero => obtain rfl : a = x := by simpa using hx
                exact e
      | succ m => exact hn m x (by omega) (by simpa using hx)
theorem eqV_int_self {j : Int} : eqV (.int j) (.int j) = true := by simp [eqV]
section
variable {P : Program} {w : World} {K : PySem.W.Frag} {mg : Str → Option Value} {base : Heap} {a : Ad}
theorem ok_law_codes (T : Txt K mg a) : FnOk P w K mg base CX0 23 a.f_law_codes a.d_law_codes ["state", "heads"] (spCodesL K) := by
  have G_law_around : FnOk P w K mg base CX0 1 _ _ _ _ := ok_law_around T
  have G_law_any_code : FnOk P w K mg base CX0 22 _ _ _ _ := ok_law_any_code T
  refine T.F__law_codes.ok sc_law_codes (fun vs H Q E h => ?_) (fun cdv A outer s H vs Q E hr h => ?_)
  · obtain ⟨_, _, _, _, _, rfl, _⟩ := h; rfl
  · obtain ⟨st, ca, l, ns, hs, rfl, S, RA, ho, h4, nls, q⟩ := h
    have hz := sizeLine_eq
    refine ⟨_, (pss_cons (ps_set (i := 2) sc_law_codes.nd rfl (Or.inl rfl) (pe_lst pa_nil))
      (pss_cons (ps_for PassesOwn.never rfl (pi_range1 rfl T.b_range (pa_cons (pe_callB call_len_seq (by rfl) T.b_len (by decide +kernel) (pa_cons (pv 1) pa_nil)) pa_nil)) (pg_name (i := 3) sc_law_codes.nd rfl (Or.inl rfl)) (pss_cons (ps_set (i := 4) sc_law_codes.nd rfl (Or.inl rfl) (pe_call G_law_around (hr.mono (by decide)) rfl T.g__law_around T.k__law_around T.bd__law_around .nil pass0 (pa_cons (pv 1) (pa_cons (pv 3) pa_nil))))
      (pss_cons (ps_set (i := 5) sc_law_codes.nd rfl (Or.inl rfl) (pe_lst pa_nil))
      (pss_cons (ps_for PassesOwn.never rfl (pi_range2 rfl T.b_range (pa_cons pe_int (pa_cons (pe_callB call_len_seq (by rfl) T.b_len (by decide +kernel) (pa_cons (pv 1) pa_nil)) pa_nil))) (pg_name (i := 6) sc_law_codes.nd rfl (Or.inl rfl)) (pss_one (ps_if (pt_cmpR op_inS (pe_ix ix_tup (pe_ix ix_list (pv 1) (pv 6) (fun _ _ => rfl)) pe_int (fun _ _ => rfl)) (pv 4) rfl) (pss_one (ps_expr (pe_bm PySem.F.plainAttrs_list PySem.F.slot_list_append PySem.F.type_list_append mt_append (pv 5) (pa_cons (pe_tup (pa_cons (pv 6) (pa_cons (pe_bm PySem.F.plainAttrs_list PySem.F.slot_list_index PySem.F.type_list_index mt_index (pv 4) (pa_cons (pe_ix ix_tup (pe_ix ix_list (pv 1) (pv 6) (fun _ _ => rfl)) pe_int (fun _ _ => rfl)) pa_nil)) (pa_cons (pe_ix ix_tup (pe_ix ix_list (pv 1) (pv 6) (fun _ _ => rfl)) pe_int (fun _ _ => rfl)) (pa_cons (pe_ix ix_tup (pe_ix ix_list (pv 1) (pv 6) (fun _ _ => rfl)) pe_int (fun _ _ => rfl)) pa_nil))))) pa_nil)))) pss_nil)))
      (pss_cons (ps_set (i := 7) sc_law_codes.nd rfl (Or.inl rfl) (pe_lst (pa_cons (pe_ix ix_tup (pe_ix ix_list (pv 1) (pv 3) (fun _ _ => rfl)) pe_int (fun _ _ => rfl)) (pa_cons (pe_lc (own := [("k", 8)]) (g := gName 8) rfl sc_law_codes.nd (pi_list (pv 4)) (blkOk_by (own := [("k", 8)]) (N := ["state", "heads", "codes", "number", "around", "called", "other", "room", "k"]) (sc := defScope s_law_codes) (by decide +kernel)) (fun _ _ _ _ _ => pg_name (i := 8) sc_law_codes.nd rfl (Or.inl rfl)) (fun _ _ _ _ _ => pts_nil) (fun _ _ _ _ _ => (pe_ix (ix_tupK (K := K) rfl) (pe_ix (ix_listK (K := K) rfl) (pv 1) (pv 8) (fun _ _ => rfl)) pe_int (fun _ _ => rfl)))) (pa_cons (pv 5) pa_nil)))))
      (pss_one (ps_expr (pe_bm PySem.F.plainAttrs_list PySem.F.slot_list_append PySem.F.type_list_append mt_append (pv 2) (pa_cons (pe_call G_law_any_code (hr.mono (by decide)) rfl T.g__law_any_code T.k__law_any_code T.bd__law_any_code .nil pass0 (pa_cons (pv 0) (pa_cons (pv 7) (pa_cons (pe_ix ix_tup (pe_ix ix_list (pv 1) (pv 3) (fun _ _ => rfl)) pe_int (fun _ _ => rfl)) pa_nil)))) pa_nil)))))))))
      (pss_one (ps_ret (pv 2))))), ?_⟩
    refine ⟨by decide, fun L nL => ?_⟩
    have nLs := S.ne nL
    have nLc := S.neC nL
    obtain ⟨us0, hl, dus0⟩ := RA
    have hul := dus0.len
    rw [List.length_map] at hul
    have nlL : l ≠ L := ne_of_none hl nL
    refine ⟨_, rfl, _, _, rfl, .inl (SqL.of (sN (Same.refl H) nL _ _ hl)), _, rfl, by omega, by omega, ?_⟩
    refine for_range (lo := 0) (n := ((us0.length : Nat) : Int).toNat) (fun i σ H' => ∃ (o3 o4 o5 o6 o7 o8 : Option V) (us : List V) (cds : List (List PyData × List (List Int))), σ = [some (.ref st), some (.ref l), some (.ref L), o3, o4, o5, o6, o7, o8] ∧ H' L = some (.lst us) ∧ DTs K H' us (cds.map codeD) ∧ (∀ c ∈ cds, CodeOk c.1 c.2) ∧ cds.length = i ∧ StD H' st ca ns ∧ Frs st H H')
      ⟨_, _, _, _, _, _, [], [], rfl, upd_same, .nil, (fun k r => nomatch r), rfl, S.new nL, Frs.refl.new nL⟩ ?_ ?_
    · rintro i σ H1 hi ⟨o3, o4, o5, o6, o7, o8, us, cds, rfl, hL, dus, hco, hcl, S1, f1⟩
      have e0 : (0 : Int) + (i : Int) = (i : Int) := Int.zero_add _
      rw [e0]
      have RA1 : RowsAt K H1 l (hs.map regD) := RowsAt.frs ⟨us0, hl, dus0⟩ S f1 nls
      refine ⟨_, rfl, _, rfl, l, hs, _, rfl, RA1, ho, h4, by omega, by omega, fun ar js H2 nar har hjl hj ss2 => ?_⟩
      have f2 : Frs st H1 H2 := fun b u h _ => ss2 _ _ h
      have S2 : StD H2 st ca ns := S1.same ss2
      refine ⟨by decide, fun cl ncl => ?_⟩
      have nclS := S2.ne ncl
      have nclC := S2.neC ncl
      have hl2 : H2 l = some (.lst us0) := f2 _ _ (f1 _ _ hl nls) nls
      have nlc : l ≠ cl := ne_of_none hl2 ncl
      have RA2 : RowsAt K H2 l (hs.map regD) := RA1.same ss2
      refine ⟨_, rfl, _, _, rfl, .inl (SqL.of (sN (Same.refl H2) ncl _ _ hl2)), 1, _, rfl, by omega, ?_⟩
      refine for_range (lo := 1) (n := (((us0.length : Nat) : Int) - 1).toNat) (fun m σ H' => ∃ (o6 : Option V) (xs : List V) (rs : List (List Int)), σ = [some (.ref st), some (.ref l), some (.ref L), some (.int (i : Int)), some (.ref ar), some (.ref cl), o6, o7, o8] ∧ H' cl = some (.lst xs) ∧ DTs K H' xs (rs.map regD) ∧ (∀ r ∈ rs, r.length = 4 ∧ 0 ≤ r.getD 2 0 ∧ r.getD 2 0 ≤ 6 ∧ 0 ≤ r.getD 3 0 ∧ r.getD 3 0 ≤ 6) ∧ rs.length ≤ m ∧ Same H2 H')
        ⟨_, [], [], rfl, upd_same, .nil, (fun k r => nomatch r), Nat.le_refl _, sN (Same.refl _) ncl⟩ ?_ ?_
      · rintro m σ H3 hm ⟨o6, xs, rs, rfl, hc, dxs, hr, hrl, ss3⟩
        have hxl := dxs.len
        rw [List.length_map] at hxl
        obtain ⟨on, hon, hon2⟩ : ∃ k : Nat, (1 : Int) + (m : Int) = (k : Int) ∧ k < hs.length := ⟨1 + m, by omega, by omega⟩
        rw [hon]
        have hl3 := ss3 _ _ hl2
        have har3 := ss3 _ _ har
        obtain ⟨us9, hus9, dus9⟩ := RA2.same ss3
        rw [hl3] at hus9
        obtain rfl : us0 = us9 := by injection hus9 with e; injection e
        obtain ⟨v1, e1, d1⟩ := dus9.it on (d := regD hs[on]) (by simp [hon2])
        obtain ⟨h5, g0, g1, g2, g3, g4, g5, _⟩ := ho on hs[on] (List.getElem?_eq_getElem hon2)
        obtain ⟨pr, ys, rfl, hys, dys⟩ := d1.ts
        obtain ⟨u0, E0, k0⟩ := dys.it 0 (ints_get (r := hs[on]) (i := 0) (by omega))
        obtain ⟨u1, E1, k1⟩ := dys.it 1 (ints_get (r := hs[on]) (i := 1) (by omega))
        obtain ⟨u2, E2, k2⟩ := dys.it 2 (ints_get (r := hs[on]) (i := 2) (by omega))
        cases k0.i
        cases k1.i
        cases k2.i
        refine ⟨_, rfl, _, rfl, _, _, _, _, rfl, rfl, SqL.of hl3, e1, _, _, _, _, rfl, rfl, hys, E0, _, rfl, _, _, rfl, .inl (SqL.of har3), rfl, flat_ints _, _, rfl, ite3 (fun c => ?_) (fun c => ?_)⟩
        · obtain ⟨jx, hjx, hno⟩ := inV_ints c
          refine ⟨_, rfl, .inl ⟨rfl, _, SqL.of hc⟩, _, rfl, _, rfl, .inl ⟨rfl, _, SqL.of har3⟩, _, rfl, _, rfl, _, _, _, _, rfl, rfl, SqL.of hl3, e1, _, _, _, _, rfl, rfl, hys, E0, ?_⟩
          refine ⟨ar, _, _, jx, .int (hs[on].getD 0 0), rfl, rfl, SqL.of har3, rfl, flat_ints _, by rw [List.getElem?_map, hjx]; rfl, eqV_int_self, fun m z' hm' hz' => ?_, ?_⟩
          · rw [List.getElem?_map] at hz'
            cases e : js[m]? with
            | none => rw [e] at hz'; cases hz'
            | some x =>
              rw [e] at hz'
              obtain rfl : V.int x = z' := by simpa using hz'
              have := hno m x hm' e
              exact decide_eq_false this
          refine ⟨_, rfl, _, rfl, _, _, _, _, rfl, rfl, SqL.of hl3, e1, _, _, _, _, rfl, rfl, hys, E1, _, rfl, _, rfl, _, _, _, _, rfl, rfl, SqL.of hl3, e1, _, _, _, _, rfl, rfl, hys, E2, (by show 4 ≤ sizeLine; decide), fun t nt => ⟨cl, xs, _, rfl, rfl, sN (Same.refl _) nt _ _ hc, by omega, ?_⟩⟩
          refine ⟨_, xs ++ [.ref t], rs ++ [[(on : Int), (jx : Int), hs[on].getD 1 0, hs[on].getD 2 0]], rfl, upd_same, ?_, fun r hr' => ?_, by simp; omega, sUpd (sN ss3 nt) ncl⟩
          · rw [List.map_append]
            exact ((dxs.keep (KT.new nt)).app (.cons (lay nt (.cons (.int _) (.cons (.int _) (.cons (.int _) (.cons (.int _) .nil))))) .nil)).keep (KT.put (sN (Same.refl _) nt _ _ hc))
          · rcases List.mem_append.mp hr' with h | h
            · exact hr r h
            · rw [List.mem_singleton.mp h]
              exact ⟨rfl, g2, g3, g4, g5⟩
        · exact ⟨_, xs, rs, rfl, hc, dxs, hr, by omega, ss3⟩
      rintro σ H3 ⟨o6, xs, rs, rfl, hc, dxs, hr, hrl, ss3⟩
      have hl3 := ss3 _ _ hl2
      have har3 := ss3 _ _ har
      have S3 := S2.same ss3
      obtain ⟨us9, hus9, dus9⟩ := RA2.same ss3
      rw [hl3] at hus9
      obtain rfl : us0 = us9 := by injection hus9 with e; injection e
      have hih : i < hs.length := by omega
      obtain ⟨v1, e1, d1⟩ := dus9.it i (d := regD hs[i]) (by simp [hih])
      obtain ⟨h5, _, _, _, _, g4, g5, g6, g7, _⟩ := ho i hs[i] (List.getElem?_eq_getElem hih)
      obtain ⟨pr, ys, rfl, hys, dys⟩ := d1.ts
      obtain ⟨u3, E3, k3⟩ := dys.it 3 (ints_get (r := hs[i]) (i := 3) (by omega))
      obtain ⟨u2, E2, k2⟩ := dys.it 2 (ints_get (r := hs[i]) (i := 2) (by omega))
      cases k3.i
      cases k2.i
      refine ⟨_, rfl, _, rfl, _, _, _, _, rfl, rfl, SqL.of hl3, e1, _, _, _, _, rfl, rfl, hys, E3, ?_⟩
      refine ⟨_, rfl, ar, rfl, ⟨_, SqL.of har3⟩, fun D nD => ?_⟩
      refine lc_list (K := K) (a := ar) (xs := js.map V.int) (fun i H' => Same H3 H' ∧ ∃ zs : List Int, H' D = some (.lst (zs.map V.int)) ∧ zs.length = i ∧ ∀ z ∈ zs, 0 ≤ z ∧ z ≤ 4) ⟨sN (Same.refl _) nD, [], upd_same, rfl, fun z h => nomatch h⟩ (fun i H' _ h => SqL.of (h.1 _ _ har3)) ?_ ?_
      · rintro m x H' hx ⟨ss, zs, hD, hzl, hzs⟩
        rw [List.getElem?_map] at hx
        obtain ⟨j, ej, rfl⟩ := Option.map_eq_some_iff.mp hx
        have hml := (List.getElem?_eq_some_iff.mp ej).1
        obtain ⟨j0, j1⟩ := hj j (List.mem_of_getElem? ej)
        obtain ⟨jn, rfl⟩ : ∃ k : Nat, j = (k : Int) := ⟨j.toNat, by omega⟩
        have hjn : jn < hs.length := by omega
        obtain ⟨w1, ew, dw⟩ := dus9.it jn (d := regD hs[jn]) (by simp [hjn])
        obtain ⟨k5, _, _, _, _, _, _, _, _, k8, k9⟩ := ho jn hs[jn] (List.getElem?_eq_getElem hjn)
        obtain ⟨pw, yw, rfl, hyw, dyw⟩ := dw.ts
        obtain ⟨u4, E4, k4⟩ := dyw.it 4 (ints_get (r := hs[jn]) (i := 4) (by omega))
        cases k4.i
        refine ⟨rfl, ?_⟩
        refine ⟨_, rfl, _, rfl, _, _, _, _, rfl, rfl, SqL.of (ss _ _ hl3), ew, _, _, _, _, rfl, rfl, seqT ss hyw, E4, zs.map V.int, hD, by simp; omega, ?_⟩
        refine ⟨sUpd ss nD, zs ++ [hs[jn].getD 4 0], by rw [upd_same]; simp, by simp [hzl], fun z hz' => ?_⟩
        rcases List.mem_append.mp hz' with h | h
        · exact hzs z h
        · rw [List.mem_singleton.mp h]
          exact ⟨k8, k9⟩
      rintro H4 ⟨ss4, zs, hD, hzl, hzs⟩
      rw [List.length_map] at hzl
      refine ⟨_, rfl, (by show 3 ≤ sizeLine; decide), fun rm nrm => ?_⟩
      have S4 := S3.same ss4
      have hsA := sTr (sTr ss3 ss4) (sN (Same.refl H4) nrm (o := .lst [.int (hs[i].getD 3 0), .ref D, .ref cl]))
      have hsB := sTr ss4 (sN (Same.refl H4) nrm (o := .lst [.int (hs[i].getD 3 0), .ref D, .ref cl]))
      have hsC := sN (Same.refl H4) nrm (o := .lst [.int (hs[i].getD 3 0), .ref D, .ref cl])
      have hL5 := hsA _ _ (f2 _ _ hL nLs)
      have R5 : RoomAt K (upd H4 rm (.lst [.int (hs[i].getD 3 0), .ref D, .ref cl])) st rm D cl (hs[i].getD 3 0) zs rs := ⟨upd_same, hsC _ _ hD, ⟨xs, hsB _ _ hc, dxs.keep (KT.same hsB)⟩, S4.ne nrm, S3.ne nD, nclS, ⟨g6, g7⟩, hzs, hr, by omega, by omega⟩
      refine ⟨_, rfl, .inl ⟨rfl, _, SqL.of hL5⟩, _, rfl, _, rfl, _, rfl, _, rfl, _, _, _, _, rfl, rfl, SqL.of (hsB _ _ hl3), e1, _, _, _, _, rfl, rfl, seqT hsB hys, E2, ?_⟩
      refine ⟨st, ca, rm, D, cl, ns, _, zs, rs, _, rfl, S3.same hsB, R5, g4, g5, fun u cs rs2 H6 du hok S6 f6 => ?_⟩
      have hL6 := f6 _ _ hL5 nLs
      have fA : Frs st H1 H6 := (f2.tr (Frs.of hsA)).tr f6
      have hul2 := dus.len
      rw [List.length_map] at hul2
      refine ⟨L, us, _, rfl, rfl, hL6, by omega, ?_⟩
      refine ⟨_, _, _, _, _, _, us ++ [u], cds ++ [(cs, rs2)], rfl, upd_same, ?_, fun c hc' => ?_, by simp [hcl], S6.upd nLs nLc, (f1.tr fA).upN nL⟩
      · rw [List.map_append]
        exact ((dus.keep (S1.kt fA)).app (.cons du .nil)).keep (KT.put hL6)
      · rcases List.mem_append.mp hc' with h | h
        · exact hco c h
        · rw [List.mem_singleton.mp h]
          exact hok
    · rintro σ H1 ⟨o3, o4, o5, o6, o7, o8, us, cds, rfl, hL, dus, hco, hcl, S1, f1⟩
      exact ⟨_, rfl, q L cds H1 ⟨us, hL, dus⟩ hco (by omega) nLs S1 f1⟩
end

/-! ### modules -/
def moF (v0 v1 v2 : V) : List (Str × V) := putF "places" v2 (putF "names" v1 (putF "units" v0 []))
theorem mo_n1 : ¬ ("units" : Str) = "places" := by decide +kernel
theorem mo_n2 : ¬ ("units" : Str) = "names" := by decide +kernel
theorem mo_un (v0 v1 v2 : V) : (moF v0 v1 v2).lookup ("units" : Str) = some v0 :=
  ((lookup_putF "places" "units" v2 _).trans (if_neg mo_n1)).trans (((lookup_putF "names" "units" v1 _).trans (if_neg mo_n2)).trans ((lookup_putF "units" "units" v0 _).trans (if_pos rfl)))
def spMoI (C : Addr) : Sp := fun vs H Q _ => ∃ (p dx : Addr) (v0 v1 v2 : V), vs = [.ref p, v0, v1, v2] ∧ H p = some (.ins C dx []) ∧ Q .non (upd H p (.ins C dx (moF v0 v1 v2)))
structure UnitAt (K : PySem.W.Frag) (C : Addr) (H : Hp) (p : Addr) (c : List PyData × List (List Int)) : Prop where
  at' : ∃ (dx : Addr) (v0 v1 v2 v3 v4 : V) (ca ra : Addr) (us xs : List V), H p = some (.ins C dx (unF v0 v1 v2 v3 v4 (.ref ca) (.ref ra))) ∧ SqT K H ca us ∧ DTs K H us c.1 ∧ SqT K H ra xs ∧ DTs K H xs (c.2.map regD)
theorem UnitAt.same {K : PySem.W.Frag} {C : Addr} {H H' : Hp} {p : Addr} {c : List PyData × List (List Int)} (h : UnitAt K C H p c) (s : Same H H') : UnitAt K C H' p c := by
  obtain ⟨dx, v0, v1, v2, v3, v4, ca, ra, us, xs, e, h1, d1, h2, d2⟩ := h.at'
  exact ⟨dx, v0, v1, v2, v3, v4, ca, ra, us, xs, s _ _ e, seqT s h1, d1.keep (KT.same s), seqT s h2, d2.keep (KT.same s)⟩
theorem UnitAt.put {K : PySem.W.Frag} {C : Addr} {H : Hp} {p L : Addr} {c : List PyData × List (List Int)} {ys zs : List V} (h : UnitAt K C H p c) (e : H L = some (.lst ys)) : UnitAt K C (upd H L (.lst zs)) p c := by
  obtain ⟨dx, v0, v1, v2, v3, v4, ca, ra, us, xs, e1, h1, d1, h2, d2⟩ := h.at'
  refine ⟨dx, v0, v1, v2, v3, v4, ca, ra, us, xs, ?_, KT.put e _ _ h1, d1.keep (KT.put e), KT.put e _ _ h2, d2.keep (KT.put e)⟩
  rw [upd_ne (ne_of e1 e fun z => nomatch z)]
  exact e1
def spModL (K : PySem.W.Frag) (CU CM : Addr) : Sp := fun vs H Q _ => ∃ (l cl : Addr) (hs : List (List Int)) (cds : List (List PyData × List (List Int))), vs = [.ref l, .ref cl] ∧ RowsAt K H l (hs.map regD) ∧ RowsAt K H cl (cds.map codeD) ∧ HeadsOk hs ∧ cds.length = hs.length ∧ hs.length ≤ 4 ∧
  ∀ (M mx ut : Addr) (v1 v2 : V) (us : List V) (H' : Hp), H' M = some (.ins CM mx (moF (.ref ut) v1 v2)) → SqT K H' ut us → us.length = cds.length → (∀ (i : Nat) c, cds[i]? = some c → ∃ p, us[i]? = some (V.ref p) ∧ UnitAt K CU H' p c) → Same H H' → Q (.ref M) H'
theorem made {H8 H9 : Hp} {x dx C : Addr} {fs gs : List (Str × V)} (s : Same H8 H9) (nx : H9 x = none) (ndx : H9 dx = none) (ne : dx ≠ x) : Same H8 (upd (upd (upd H9 dx (.own x)) x (.ins C dx fs)) x (.ins C dx gs)) := by
  rw [upd_upd]
  exact sN (sN s ndx) (by rw [upd_ne ne.symm]; exact nx)
section
variable {P : Program} {w : World} {K : PySem.W.Frag} {mg : Str → Option Value} {base : Heap} {a : Ad}
theorem ok_Module___init__ (T : Txt K mg a) : FnOk P w K mg base CX0 1 a.f_Module___init__ a.d_Module___init__ ["self", "units", "names", "places"] (spMoI a.C_Module) := by
  refine T.F_Module___init__.ok sc_Module___init__ (fun vs H Q E h => ?_) (fun cdv A outer s H vs Q E hr h => ?_)
  · obtain ⟨_, _, _, _, _, rfl, _⟩ := h; rfl
  · obtain ⟨p, dx, v0, v1, v2, rfl, hp, q⟩ := h
    refine ⟨_, (pss_cons (ps_fld (pv 0) (pv 1) rfl)
      (pss_cons (ps_fld (pv 0) (pv 2) rfl)
      (pss_one (ps_fld (pv 0) (pv 3) rfl)))), ?_⟩
    refine ⟨_, rfl, _, rfl, p, a.C_Module, dx, _, rfl, hp, T.cl_Module, T.n_Module_units, (by show 0 < 1000; decide), ?_⟩
    refine ⟨_, rfl, _, rfl, p, a.C_Module, dx, _, rfl, upd_same, T.cl_Module, T.n_Module_names, (by show 1 < 1000; decide), ?_⟩
    rw [upd_upd]
    refine ⟨_, rfl, _, rfl, p, a.C_Module, dx, _, rfl, upd_same, T.cl_Module, T.n_Module_places, Nat.lt_of_le_of_lt (pf_lt (pf_lt (Nat.le_refl 0))) (by decide : 2 < 1000), ?_⟩
    rw [upd_upd]
    exact q
theorem ok_law_module (T : Txt K mg a) : FnOk P w K mg base CX0 3 a.f_law_module a.d_law_module ["heads", "codes"] (spModL K a.C_Unit a.C_Module) := by
  have G_Unit___init__ : FnOk P w K mg base CX0 1 _ _ _ _ := ok_Unit___init__ T
  have G_Module___init__ : FnOk P w K mg base CX0 1 _ _ _ _ := ok_Module___init__ T
  refine T.F__law_module.ok sc_law_module (fun vs H Q E h => ?_) (fun cdv A outer s H vs Q E hr h => ?_)
  · obtain ⟨_, _, _, _, rfl, _⟩ := h; rfl
  · obtain ⟨l, cl, hs, cds, rfl, RH, RC, ho, hcl, h4, q⟩ := h
    have hz := sizeLine_eq
    obtain ⟨us0, hl, dus0⟩ := RH
    obtain ⟨us1, hc, dus1⟩ := RC
    have hul := dus0.len
    rw [List.length_map] at hul
    refine ⟨_, (pss_cons (ps_set (i := 2) sc_law_module.nd rfl (Or.inl rfl) (pe_lst pa_nil))
      (pss_cons (ps_for PassesOwn.never rfl (pi_range1 rfl T.b_range (pa_cons (pe_callB call_len_seq (by rfl) T.b_len (by decide +kernel) (pa_cons (pv 0) pa_nil)) pa_nil)) (pg_name (i := 3) sc_law_module.nd rfl (Or.inl rfl)) (pss_cons (ps_asg (pe_ix ix_list (pv 0) (pv 3) (fun _ _ => rfl)) (pg_tup rfl (pgs_cons (pg_name (i := 4) sc_law_module.nd rfl (Or.inl rfl)) (pgs_cons (pg_name (i := 5) sc_law_module.nd rfl (Or.inl rfl)) (pgs_cons (pg_name (i := 6) sc_law_module.nd rfl (Or.inl rfl)) (pgs_cons (pg_name (i := 7) sc_law_module.nd rfl (Or.inl rfl)) (pgs_cons (pg_name (i := 8) sc_law_module.nd rfl (Or.inl rfl)) pgs_nil)))))))
      (pss_one (ps_expr (pe_bm PySem.F.plainAttrs_list PySem.F.slot_list_append PySem.F.type_list_append mt_append (pv 2) (pa_cons (pe_make T.mk_Unit G_Unit___init__ (hr.mono (by decide)) rfl T.g_Unit T.bd_Unit___init__ .nil pass0 (pa_cons (pv 4) (pa_cons (pv 5) (pa_cons (pv 6) (pa_cons (pv 7) (pa_cons (pv 8) (pa_cons (pe_ix ix_tup (pe_ix ix_list (pv 1) (pv 3) (fun _ _ => rfl)) pe_int (fun _ _ => rfl)) (pa_cons (pe_ix ix_tup (pe_ix ix_list (pv 1) (pv 3) (fun _ _ => rfl)) pe_int (fun _ _ => rfl)) pa_nil)))))))) pa_nil))))))
      (pss_cons (ps_set (i := 9) sc_law_module.nd rfl (Or.inl rfl) (pe_tup (pa_cons pe_str (pa_cons pe_str (pa_cons pe_str (pa_cons pe_str (pa_cons pe_str pa_nil)))))))
      (pss_one (ps_ret (pe_make T.mk_Module G_Module___init__ (hr.mono (by decide)) rfl T.g_Module T.bd_Module___init__ .nil pass0 (pa_cons (pe_callTy call_tuple_of (by rfl) T.b_tuple (by decide +kernel) (pa_cons (pv 2) pa_nil)) (pa_cons (pv 9) (pa_cons (pe_tup (pa_cons (pe_tup (pa_cons pe_int (pa_cons pe_int pa_nil))) (pa_cons (pe_tup (pa_cons pe_int (pa_cons pe_int pa_nil))) (pa_cons (pe_tup (pa_cons pe_int (pa_cons pe_int pa_nil))) (pa_cons (pe_tup (pa_cons pe_int (pa_cons pe_int pa_nil))) (pa_cons (pe_tup (pa_cons pe_int (pa_cons pe_int pa_nil))) pa_nil)))))) pa_nil))))))))), ?_⟩
    refine ⟨by decide, fun L nL => ⟨_, rfl, _, _, rfl, .inl (SqL.of (sN (Same.refl H) nL _ _ hl)), _, rfl, by omega, by omega, ?_⟩⟩
    refine for_range (lo := 0) (n := ((us0.length : Nat) : Int).toNat) (fun i σ H' => ∃ (o3 o4 o5 o6 o7 o8 : Option V) (us : List V), σ = [some (.ref l), some (.ref cl), some (.ref L), o3, o4, o5, o6, o7, o8, none] ∧ H' L = some (.lst us) ∧ us.length = i ∧ Same H H' ∧ ∀ (m : Nat) c, m < i → cds[m]? = some c → ∃ p, us[m]? = some (V.ref p) ∧ UnitAt K a.C_Unit H' p c)
      ⟨_, _, _, _, _, _, [], rfl, upd_same, rfl, sN (Same.refl H) nL, fun m c h => by omega⟩ ?_ ?_
    · rintro i σ H1 hi ⟨o3, o4, o5, o6, o7, o8, us, rfl, hL, hil, ss, hu⟩
      have e0 : (0 : Int) + (i : Int) = (i : Int) := Int.zero_add _
      rw [e0]
      have hih : i < hs.length := by omega
      have hic : i < cds.length := by omega
      obtain ⟨v1, e1, d1⟩ := dus0.it i (d := regD hs[i]) (by simp [hih])
      obtain ⟨h5, _⟩ := ho i hs[i] (List.getElem?_eq_getElem hih)
      obtain ⟨x0, x1, x2, x3, x4, hx⟩ : ∃ a b c d e, hs[i] = [a, b, c, d, e] := by
        match hs[i], h5 with
        | [a, b, c, d, e], _ => exact ⟨a, b, c, d, e, rfl⟩
      rw [hx] at d1
      obtain ⟨pr, ys, rfl, hys, dys⟩ := (d1.keep (KT.same ss)).ts
      obtain rfl := dys.ints
      obtain ⟨w1, E1, D1⟩ := dus1.it i (d := codeD cds[i]) (by simp [hic])
      obtain ⟨pw, zs, rfl, hzs, dzs⟩ := (D1.keep (KT.same ss)).ts
      obtain ⟨z0, zt, rfl, y0, dt⟩ := dzs.un
      obtain ⟨z1, zt, rfl, y1, dt⟩ := dt.un
      obtain rfl := dt.em
      obtain ⟨q0, c0, rfl, hq0, dc0⟩ := y0.ts
      obtain ⟨q1, c1, rfl, hq1, dc1⟩ := y1.ts
      refine ⟨_, rfl, _, rfl, _, _, _, _, rfl, rfl, SqL.of (ss _ _ hl), e1, ?_⟩
      refine ⟨pr, _, rfl, hys, rfl, _, _, rfl, _, _, rfl, _, _, rfl, _, _, rfl, _, _, rfl, rfl, ?_⟩
      refine ⟨_, rfl, .inl ⟨rfl, _, SqL.of hL⟩, ?_⟩
      refine ⟨_, rfl, _, rfl, _, rfl, _, rfl, _, rfl, _, rfl, _, rfl, _, _, _, _, rfl, rfl, SqL.of (ss _ _ hc), E1, _, _, _, _, rfl, rfl, hzs, atI_nat (j := 0) rfl, _, rfl, _, rfl, _, _, _, _, rfl, rfl, SqL.of (ss _ _ hc), E1, _, _, _, _, rfl, rfl, hzs, atI_nat (j := 1) rfl, fun x dx nx ndx nex => ?_⟩
      have s9 := made (C := a.C_Unit) (fs := []) (gs := unF (.int x0) (.int x1) (.int x2) (.int x3) (.int x4) (.ref q0) (.ref q1)) (Same.refl H1) nx ndx nex
      refine ⟨x, dx, _, _, _, _, _, _, _, rfl, upd_same, rfl, ?_⟩
      refine ⟨L, us, _, rfl, rfl, s9 _ _ hL, by omega, ?_⟩
      have hx9 : upd (upd (upd H1 dx (.own x)) x (.ins a.C_Unit dx [])) x (.ins a.C_Unit dx (unF (.int x0) (.int x1) (.int x2) (.int x3) (.int x4) (.ref q0) (.ref q1))) x = some (.ins a.C_Unit dx (unF (.int x0) (.int x1) (.int x2) (.int x3) (.int x4) (.ref q0) (.ref q1))) := upd_same
      refine ⟨_, _, _, _, _, _, us ++ [.ref x], rfl, upd_same, by simp [hil], sUpd (sTr ss s9) nL, fun m c hm hc' => ?_⟩
      by_cases em : m < i
      · obtain ⟨p, ep, up⟩ := hu m c em hc'
        exact ⟨p, by rw [List.getElem?_append_left (by omega)]; exact ep, (up.same s9).put (s9 _ _ hL)⟩
      · have em2 : m = i := by omega
        subst em2
        rw [List.getElem?_eq_getElem hic] at hc'
        obtain rfl : cds[m] = c := by injection hc'
        refine ⟨x, by rw [List.getElem?_append_right (by omega), hil, Nat.sub_self]; rfl, UnitAt.put (ys := us) ⟨dx, _, _, _, _, _, q0, q1, _, _, hx9, seqT s9 hq0, dc0.keep (KT.same s9), seqT s9 hq1, dc1.keep (KT.same s9)⟩ (s9 _ _ hL)⟩
    · rintro σ H1 ⟨o3, o4, o5, o6, o7, o8, us, rfl, hL, hil, ss, hu⟩
      have hul3 : us.length = cds.length := by omega
      refine ⟨by decide, fun t0 m0 => ⟨_, rfl, L, us, rfl, .inl ⟨SqL.of (sN (Same.refl _) m0 _ _ hL), fun ut nut => ?_⟩⟩⟩
      refine ⟨_, rfl, (by show 2 ≤ sizeLine; decide), fun t1 m1 => ⟨(by show 2 ≤ sizeLine; decide), fun t2 m2 => ⟨(by show 2 ≤ sizeLine; decide), fun t3 m3 => ⟨(by show 2 ≤ sizeLine; decide), fun t4 m4 => ⟨(by show 2 ≤ sizeLine; decide), fun t5 m5 => ⟨(by show 5 ≤ sizeLine; decide), fun t6 m6 => ?_⟩⟩⟩⟩⟩⟩
      refine fun x dx nx ndx nex => ⟨x, dx, _, _, _, rfl, upd_same, rfl, ?_⟩
      have sA := made (C := a.C_Module) (fs := []) (gs := moF (.ref ut) (.ref t0) (.ref t6)) (sN (sN (sN (sN (sN (sN (Same.refl _) m1) m2) m3) m4) m5) m6) nx ndx nex
      have sB := sTr (sN (sN (Same.refl H1) m0) nut) sA
      exact q x dx ut _ _ us _ upd_same (seqT sA (SqT.of upd_same)) hul3 (fun i c hc' => by
        obtain ⟨p, ep, up⟩ := hu i c (by have := (List.getElem?_eq_some_iff.mp hc').1; omega) hc'
        exact ⟨p, ep, up.same sB⟩) (sTr ss sB)
end

/-! ### the ways -/
def spWaysL (K : PySem.W.Frag) : Sp := fun vs H Q _ => ∃ (v1 v2 : V) (cs : List PyData) (rs : List (List Int)) (k : Nat), vs = [v1, v2, .int (k : Int)] ∧ DT K H v1 (.tuple cs) ∧ DT K H v2 (.tuple (rs.map regD)) ∧ CodeOk cs rs ∧ k < cs.length ∧ ∀ (u : V) (H' : Hp), DT K H' u (edgeF cs rs k) → Same H H' → Q u H'
theorem cut1 (xs : List V) : cutV xs none (some 1) = xs.take 1 := by
  unfold cutV
  cases xs with
  | nil => rfl
  | cons x t =>
    have h1 : HT.sIx (x :: t).length 0 none = 0 := rfl
    have h2 : HT.sIx (x :: t).length (x :: t).length (some 1) = 1 := by
      simp [HT.sIx]
    rw [h1, h2]
    rfl
theorem ent_take {rs : List (List Int)} {ix : Int} : (((rs.filter (inR ix)).map fun r => r.getD 2 0).take 1) = entL rs ix := by
  unfold entL
  induction rs with
  | nil => rfl
  | cons r t ih =>
    rw [List.filter_cons, List.find?_cons]
    cases e : inR ix r with
    | true => rfl
    | false => simpa using ih
section
variable {P : Program} {w : World} {K : PySem.W.Frag} {mg : Str → Option Value} {base : Heap} {a : Ad}
theorem ok_law_ways (T : Txt K mg a) : FnOk P w K mg base CX0 1 a.f_law_ways a.d_law_ways ["code", "regions", "index"] (spWaysL K) := by
  refine T.F__law_ways.ok sc_law_ways (fun vs H Q E h => ?_) (fun cdv A outer s H vs Q E hr h => ?_)
  · obtain ⟨_, _, _, _, _, rfl, _⟩ := h; rfl
  · obtain ⟨v1, v2, cs, rs, i, rfl, D1, D2, hco, hi, q⟩ := h
    have hz := sizeLine_eq
    obtain ⟨a1, us, rfl, h1, d1⟩ := D1.ts
    obtain ⟨a2, xs, rfl, h2, d2⟩ := D2.ts
    obtain ⟨D, hD0⟩ : ∃ D, cs[i]? = some D := ⟨cs[i], List.getElem?_eq_getElem hi⟩
    obtain ⟨nm, ds, rfl, hj1, hj2⟩ := hco.i D (List.mem_of_getElem? hD0)
    obtain ⟨vi, ei, di⟩ := d1.it i hD0
    obtain ⟨pi, ys, rfl, hys, dys⟩ := di.ts
    obtain ⟨v0, E0, k0⟩ := dys.it 0 (d := .str nm) rfl
    cases k0.s
    refine ⟨_, (pss_cons (ps_set (i := 3) sc_law_ways.nd rfl (Or.inl rfl) (pe_ix ix_tup (pv 0) (pv 2) (fun _ _ => rfl)))
      (pss_cons (ps_set (i := 4) sc_law_ways.nd rfl (Or.inl rfl) (pe_lst (pa_cons (pe_op op_add (pv 2) pe_int) pa_nil)))
      (C8.pss_cut (ps_if (pt_cmpR op_eq (pe_ix ix_tup (pv 3) pe_int (fun _ _ => rfl)) pe_str (nomark _)) (pss_one (ps_set (i := 4) sc_law_ways.nd rfl (Or.inl rfl) (pe_lst (pa_cons (pe_ix ix_tup (pv 3) pe_int (fun _ _ => rfl)) pa_nil)))) (pss_one (ps_if (pt_cmpR op_eq (pe_ix ix_tup (pv 3) pe_int (fun _ _ => rfl)) pe_str (nomark _)) (pss_one (ps_set (i := 4) sc_law_ways.nd rfl (Or.inl rfl) (pe_lst (pa_cons (pe_ix ix_tup (pv 3) pe_int (fun _ _ => rfl)) (pa_cons (pe_op op_add (pv 2) pe_int) pa_nil))))) (pss_one (ps_if (pt_cmpR op_inS (pe_ix ix_tup (pv 3) pe_int (fun _ _ => rfl)) (pe_lst (pa_cons pe_str (pa_cons pe_str (pa_cons pe_str pa_nil)))) rfl) (pss_one (ps_set (i := 4) sc_law_ways.nd rfl (Or.inl rfl) (pe_lst pa_nil))) pss_nil)))))
      (pss_cons (ps_set (i := 5) sc_law_ways.nd rfl (Or.inl rfl) (pe_lst (pa_cons pe_str (pa_cons pe_str (pa_cons pe_str (pa_cons pe_str (pa_cons pe_str (pa_cons pe_str (pa_cons pe_str (pa_cons pe_str (pa_cons pe_str (pa_cons pe_str (pa_cons pe_str (pa_cons pe_str (pa_cons pe_str pa_nil)))))))))))))))
      (pss_cons (ps_setLc (i := 6) (own := [("region", 7)]) (g := gName 7) rfl sc_law_ways.nd rfl rfl (sw_true rfl rfl rfl (by decide +kernel)) (pi_tup (pv 1)) (blkOk_by (own := [("region", 7)]) (N := ["code", "regions", "index", "instruction", "found", "raising", "entries", "region"]) (sc := defScope s_law_ways) (by decide +kernel)) (fun _ _ _ _ _ => pg_name (i := 7) sc_law_ways.nd rfl (Or.inl rfl)) (fun _ _ _ _ _ => (pts_one (pt_chain op_le op_lt (pe_ix (ix_tupK (K := K) rfl) (pv 7) pe_int (fun _ _ => rfl)) (pv 2) (pe_ix (ix_tupK (K := K) rfl) (pv 7) pe_int (fun _ _ => rfl))))) (fun _ _ _ _ _ => (pe_ix (ix_tupK (K := K) rfl) (pv 7) pe_int (fun _ _ => rfl))))
      (C8.pss_cut (ps_if (pt_cmpR op_inS (pe_ix ix_tup (pv 3) pe_int (fun _ _ => rfl)) (pv 5) rfl) (pss_one (ps_set (i := 4) sc_law_ways.nd rfl (Or.inl rfl) (pe_op op_cat (pv 4) (pe_slice sl_list (pv 6) po_none (po_some pe_int))))) pss_nil)
      (pss_one (ps_ret (pe_callTy call_tuple_of (by rfl) T.b_tuple (by decide +kernel) (pa_cons (pe_callB (cr_sortedSet rfl) (by rfl) T.b_sorted (by decide +kernel) (pa_cons (pe_callTy (cr_setL rfl) (by rfl) T.b_set (by decide +kernel) (pa_cons (pv 4) pa_nil)) pa_nil)) pa_nil)))))))))), ?_⟩
    refine ⟨_, rfl, _, rfl, _, _, _, _, rfl, rfl, h1, ei, ?_⟩
    refine ⟨_, rfl, _, _, rfl, rfl, (by show 1 ≤ sizeLine; decide), fun f0 nf0 => ?_⟩
    have ss0 := sN (Same.refl H) nf0 (o := .lst [.int ((i : Int) + 1)])
    refine ⟨fun σ H' => ∃ F : Addr, σ = [some (.ref a1), some (.ref a2), some (.int (i : Int)), some (.ref pi), some (.ref F), none, none, none] ∧ H' F = some (.lst ((folL (.tuple (.str nm :: ds)) (i : Int)).map V.int)) ∧ Same H H', ?_, ?_⟩
    · refine ⟨_, rfl, _, _, _, _, rfl, rfl, seqT ss0 hys, E0, rfl, _, rfl, ite3 (fun c => ?_) (fun c => ?_)⟩
      · have hnm := str_dec c
        obtain ⟨t, et⟩ := hj1 hnm
        obtain ⟨vt, Et, kt⟩ := dys.it 1 (d := .int t) (by simpa using et)
        cases kt.i
        refine ⟨_, rfl, _, _, _, _, rfl, rfl, seqT ss0 hys, Et, (by show 1 ≤ sizeLine; decide), fun f1 nf1 => ⟨f1, rfl, ?_, sN ss0 nf1⟩⟩
        have : folL (.tuple (.str nm :: ds)) (i : Int) = [t] := by
          unfold folL
          rw [show nmOf (.tuple (.str nm :: ds)) = nm from rfl, if_pos hnm]
          unfold intAt; simp [et]
        rw [this]
        exact upd_same
      have hn1 := str_dec' c
      refine ⟨_, rfl, _, _, _, _, rfl, rfl, seqT ss0 hys, E0, rfl, _, rfl, ite3 (fun c2 => ?_) (fun c2 => ?_)⟩
      · have hnm := str_dec c2
        obtain ⟨t, et⟩ := hj2 hnm
        obtain ⟨vt, Et, kt⟩ := dys.it 2 (d := .int t) (by simpa using et)
        cases kt.i
        refine ⟨_, rfl, _, _, _, _, rfl, rfl, seqT ss0 hys, Et, _, rfl, _, _, rfl, rfl, (by show 2 ≤ sizeLine; decide), fun f1 nf1 => ⟨f1, rfl, ?_, sN ss0 nf1⟩⟩
        have : folL (.tuple (.str nm :: ds)) (i : Int) = [t, (i : Int) + 1] := by
          unfold folL
          rw [show nmOf (.tuple (.str nm :: ds)) = nm from rfl, if_neg hn1, if_pos hnm]
          unfold intAt; simp [et]
        rw [this]
        exact upd_same
      have hn2 := str_dec' c2
      refine ⟨_, rfl, _, _, _, _, rfl, rfl, seqT ss0 hys, E0, (by show 3 ≤ sizeLine; decide), fun tl ntl => ⟨tl, lvs, rfl, .inl (SqL.of upd_same), rfl, by decide +kernel, _, rfl, ite3 (fun c3 => ?_) (fun c3 => ?_)⟩⟩
      · refine ⟨by decide, fun f1 nf1 => ⟨f1, rfl, ?_, sN (sN ss0 ntl) nf1⟩⟩
        have : folL (.tuple (.str nm :: ds)) (i : Int) = [] := by
          unfold folL
          rw [show nmOf (.tuple (.str nm :: ds)) = nm from rfl, if_neg hn1, if_neg hn2, if_pos c3]
        rw [this]
        exact upd_same
      · refine ⟨f0, rfl, ?_, sN ss0 ntl⟩
        have : folL (.tuple (.str nm :: ds)) (i : Int) = [(i : Int) + 1] := by
          unfold folL
          rw [show nmOf (.tuple (.str nm :: ds)) = nm from rfl, if_neg hn1, if_neg hn2, c3]
          rfl
        rw [this]
        exact sN (Same.refl _) ntl _ _ upd_same
    rintro σ H1 ⟨F, rfl, hF, ss1⟩
    refine ⟨(by show 13 ≤ sizeLine; decide), fun rl nrl => ?_⟩
    have ss2 := sN ss1 nrl (o := .lst rss)
    have h22 := seqT ss2 h2
    have hxl := d2.len
    rw [List.length_map] at hxl
    have hrl2 := hco.l2
    refine ⟨_, rfl, a2, rfl, ⟨_, h22⟩, fun D nD => ?_⟩
    have hrl3 : rl ≠ D := ne_of_none upd_same nD
    refine lc_tup (K := K) (a := a2) (xs := xs) (fun m H' => Same (upd H1 rl (.lst rss)) H' ∧ H' D = some (.lst ((((rs.take m).filter (inR (i : Int))).map fun r => r.getD 2 0).map V.int))) ⟨sN (Same.refl _) nD, upd_same⟩ (fun m H' _ h => seqT h.1 h22) ?_ ?_
    · rintro m x H' hx ⟨ss, hD'⟩
      obtain ⟨d, ed, dx⟩ := d2.at hx
      rw [List.getElem?_map] at ed
      obtain ⟨r, er, rfl⟩ := Option.map_eq_some_iff.mp ed
      obtain ⟨hr5, _⟩ := hco.r r (List.mem_of_getElem? er)
      obtain ⟨pr, zs, rfl, hzs, dzs⟩ := (dx.keep (KT.same (sTr ss2 ss))).ts
      obtain ⟨w0, e0, k0⟩ := dzs.it 0 (ints_get (r := r) (i := 0) (by omega))
      obtain ⟨w1, e1, k1⟩ := dzs.it 1 (ints_get (r := r) (i := 1) (by omega))
      obtain ⟨w2, e2, k2⟩ := dzs.it 2 (ints_get (r := r) (i := 2) (by omega))
      cases k0.i
      cases k1.i
      cases k2.i
      have hml : m < rs.length := (List.getElem?_eq_some_iff.mp er).1
      have hlen : (((rs.take m).filter (inR (i : Int))).map fun r => r.getD 2 0).length ≤ m := by
        rw [List.length_map]
        exact Nat.le_trans (List.length_filter_le _ _) (by simp; omega)
      have hst := filter_step (inR (i : Int)) er
      refine ⟨rfl, ?_⟩
      refine ⟨_, rfl, _, _, _, _, rfl, rfl, hzs, e0, _, rfl, _, _, rfl, rfl, _, rfl, ite3 (fun c => ?_) (fun c => ?_)⟩
      · refine ⟨_, rfl, _, _, _, _, rfl, rfl, hzs, e1, _, _, rfl, rfl, _, rfl, ite3 (fun c2 => ?_) (fun c2 => ?_)⟩
        · have hin : inR (i : Int) r = true := by unfold inR; rw [c, c2]; rfl
          refine ⟨_, rfl, _, _, _, _, rfl, rfl, hzs, e2, _, hD', by rw [List.length_map]; omega, sUpd ss nD, ?_⟩
          rw [hst, if_pos hin, List.map_append, List.map_append]
          exact upd_same
        · have hin : ¬ inR (i : Int) r = true := by unfold inR; rw [c, c2]; decide
          exact ⟨ss, by rw [hst, if_neg hin, List.append_nil]; exact hD'⟩
      · have hin : ¬ inR (i : Int) r = true := by unfold inR; rw [c]; simp
        exact ⟨_, rfl, iteF ⟨ss, by rw [hst, if_neg hin, List.append_nil]; exact hD'⟩⟩
    rintro H3 ⟨ss3, hD⟩
    rw [hxl, List.take_length] at hD
    have ss4 := sTr ss2 ss3
    have hF3 := ss3 _ _ (sN (Same.refl _) nrl _ _ hF)
    have hfl2 := folL_len (D := .tuple (.str nm :: ds)) (ix := (i : Int))
    have hent : (((rs.filter (inR (i : Int))).map fun r => r.getD 2 0).take 1) = entL rs (i : Int) := ent_take
    have hedge : edgeF cs rs i = .tuple ((canon (wayL (.tuple (.str nm :: ds)) rs (i : Int))).map .int) := by
      unfold edgeF
      rw [List.getD, hD0]
      rfl
    refine ⟨fun σ H' => ∃ (F2 : Addr) (fl : List Int) (o5 o6 o7 : Option V), σ = [some (.ref a1), some (.ref a2), some (.int (i : Int)), some (.ref pi), some (.ref F2), o5, o6, o7] ∧ H' F2 = some (.lst (fl.map V.int)) ∧ fl.length ≤ 3 ∧ fl = wayL (.tuple (.str nm :: ds)) rs (i : Int) ∧ Same H H', ?_, ?_⟩
    · refine ⟨_, rfl, _, _, _, _, rfl, rfl, seqT ss4 hys, E0, _, rfl, rl, _, rfl, .inl (SqL.of (ss3 _ _ upd_same)), rfl, by decide +kernel, _, rfl, ite3 (fun c => ?_) (fun c => ?_)⟩
      · refine ⟨_, rfl, _, rfl, _, rfl, D, _, rfl, SqL.of hD, fun p np => ?_⟩
        rw [cut1, ← List.map_take, hent]
        have hee : (entL rs (i : Int)).length ≤ 1 := by
          rw [← hent]
          simp
          omega
        refine ⟨F, p, _, _, rfl, rfl, sN (Same.refl _) np _ _ hF3, upd_same, by simp; omega, fun p2 np2 => ?_⟩
        refine ⟨p2, folL (.tuple (.str nm :: ds)) (i : Int) ++ entL rs (i : Int), _, _, _, rfl, by rw [upd_same, List.map_append], by simp; omega, ?_, sN (sN ss4 np) np2⟩
        unfold wayL
        rw [show inV (.str (nmOf (.tuple (.str nm :: ds)))) rss = true from c, if_pos rfl]
      · refine ⟨F, folL (.tuple (.str nm :: ds)) (i : Int), _, _, _, rfl, hF3, by omega, ?_, ss4⟩
        unfold wayL
        rw [show inV (.str (nmOf (.tuple (.str nm :: ds)))) rss = false from c, if_neg (by decide), List.append_nil]
    rintro σ H4 ⟨F2, fl, o5, o6, o7, rfl, hF2, hfl, rfl, ss5⟩
    refine ⟨_, rfl, F2, _, rfl, SqL.of hF2, by omega, fun p c np hc => ?_⟩
    refine ⟨p, _, c, rfl, upd_same, by omega, fun ns p2 hsort hmem hlen np2 => ⟨p2, _, rfl, .inl ⟨SqL.of upd_same, fun p3 np3 => ?_⟩⟩⟩
    have hns : ns = canon (wayL (.tuple (.str nm :: ds)) rs (i : Int)) := canon_uniq hsort fun k => by
      rw [hmem k]
      exact decide_eq_true_iff
    refine q _ _ ?_ (sN (sN (sN ss5 np) np2) np3)
    rw [hedge, ← hns]
    exact lay np3 (dts_ints ns)
end

/-! ### what is reached -/
inductive Rc (cs : List PyData) (rs : List (List Int)) : Nat → Prop
  | z : Rc cs rs 0
  | s {i j : Nat} : Rc cs rs i → i < cs.length → (j : Int) ∈ wayL (cs.getD i .none) rs (i : Int) → Rc cs rs j
def rchD (n : Nat) (p : Nat → Bool) : PyData := .tuple (((List.range n).filter p).map fun (i : Nat) => .int (i : Int))
theorem way_in {cs : List PyData} {rs : List (List Int)} (ok : CodeOk cs rs) {i : Nat} (hi : i < cs.length) {k : Int} (h : k ∈ wayL (cs.getD i .none) rs (i : Int)) : 0 ≤ k ∧ k < (cs.length : Int) := by
  have e := List.getElem?_eq_getElem hi
  have w := ok.w i _ e
  obtain ⟨nm, ds, ed, _⟩ := ok.i cs[i] (List.getElem_mem hi)
  have eg : cs.getD i .none = .tuple (.str nm :: ds) := by
    unfold List.getD
    rw [e, ed]
    rfl
  rw [ed] at w
  obtain ⟨w1, w2, w3⟩ := w nm ds rfl
  unfold wayL at h
  rw [eg] at h
  rcases List.mem_append.mp h with h | h
  · unfold folL at h
    rw [show nmOf (.tuple (.str nm :: ds)) = nm from rfl] at h
    by_cases e1 : nm = "jump"
    · rw [if_pos e1] at h
      obtain ⟨t, et, a, b⟩ := w1 e1
      have : intAt (.tuple (.str nm :: ds)) 1 = t := by unfold intAt; simp [et]
      rw [this, List.mem_singleton] at h
      omega
    rw [if_neg e1] at h
    by_cases e2 : nm = "branch"
    · rw [if_pos e2] at h
      obtain ⟨t, et, a, b⟩ := w2 e2
      have : intAt (.tuple (.str nm :: ds)) 2 = t := by unfold intAt; simp [et]
      rw [this] at h
      have := w3 e1 (by rw [e2]; exact lvs_no.2)
      simp at h
      omega
    rw [if_neg e2] at h
    cases c : inV (.str nm) lvs with
    | true => rw [c, if_pos rfl] at h; cases h
    | false =>
      rw [c, if_neg (by decide), List.mem_singleton] at h
      have := w3 e1 c
      omega
  · split at h
    · unfold entL at h
      split at h
      · rename_i r er
        have := ok.e r (List.mem_of_find?_eq_some er)
        rw [List.mem_singleton] at h
        omega
      · cases h
    · cases h
def spReached (K : PySem.W.Frag) (C : Addr) : Sp := fun vs H Q _ => ∃ (p : Addr) (c : List PyData × List (List Int)), vs = [.ref p] ∧ UnitAt K C H p c ∧ CodeOk c.1 c.2 ∧ 0 < c.1.length ∧ ∀ (u : V) (H' : Hp) (f : Nat → Bool), (∀ i, i < c.1.length → (f i = true ↔ Rc c.1 c.2 i)) → DT K H' u (rchD c.1.length f) → Same H H' → Q u H'
theorem none_of {H H' : Hp} {p : Addr} (s : Same H H') (n : H' p = none) : H p = none := by
  cases e : H p with
  | none => rfl
  | some o => rw [s _ _ e] at n; cases n
def nI (i : Nat) : V := .int (i : Int)
theorem dts_nI {K : PySem.W.Frag} {H : Hp} : ∀ (l : List Nat), DTs K H (l.map nI) (l.map fun (i : Nat) => .int (i : Int))
  | [] => .nil
  | _ :: r => .cons (.int _) (dts_nI r)
/-- the found at F and the pending at Pd; all else stays -/
structure RQ (K : PySem.W.Frag) (H H1 : Hp) (F Pd : Addr) (H' : Hp) (bs : List Bool) (ps : List Nat) : Prop where
  f : H' F = some (.lst (bs.map V.bl))
  p : H' Pd = some (.lst (ps.map nI))
  s : Same H H'
  k : KT K H1 H'
/-- what holds of them; the ways of the indexes of ex are not yet done -/
structure RI (cs : List PyData) (rs : List (List Int)) (bs : List Bool) (ps : List Nat) (ex : Nat → Prop) : Prop where
  len : bs.length = cs.length
  lt : ∀ i ∈ ps, i < cs.length
  snd : ∀ i : Nat, bs[i]? = some true → Rc cs rs i
  z : bs[0]? = some true
  cl : ∀ i : Nat, bs[i]? = some true → i ∈ ps ∨ ex i ∨ ∀ k, k ∈ wayL (cs.getD i .none) rs (i : Int) → bs[k.toNat]? = some true
  pt : ∀ i ∈ ps, bs[i]? = some true
def mu (F Pd : Addr) (H : Hp) : Nat := match H F, H Pd with
  | some (.lst xs), some (.lst ys) => 2 * (xs.filter fun v => match v with | .bl b => !b | _ => false).length + ys.length
  | _, _ => 0
def nf (bs : List Bool) : Nat := (bs.filter fun b => !b).length
theorem gN_in {i : Nat} {v : V} {σ : L2.St} {H : Hp} {Q : L2.St → Hp → Prop} (h : Q (σ.set i (some v)) H) : gName i v σ H Q := h
theorem tS_in {s t : TS} {D : Ends} {σ : L2.St} {H : Hp} (h : s { D with nx := t D } σ H) : tSeq s t D σ H := h
theorem tW_in {c : TT} {tb : TS} {D : Ends} {σ : L2.St} {H : Hp} (h : tWhile c tb D σ H) : tWhile c tb D σ H := h
theorem nf_map : ∀ (bs : List Bool), ((bs.map V.bl).filter fun v => match v with | .bl b => !b | _ => false).length = nf bs
  | [] => rfl
  | b :: r => by
    have ih := nf_map r
    unfold nf at ih ⊢
    cases b <;> simp_all
theorem nf_set : ∀ (bs : List Bool) (i : Nat), bs[i]? = some false → nf (bs.set i true) + 1 = nf bs
  | [], _, h => by simp at h
  | b :: r, 0, h => by
    obtain rfl : b = false := by simpa using h
    rfl
  | b :: r, i + 1, h => by
    have ih := nf_set r i (by simpa using h)
    unfold nf at ih ⊢
    cases b <;> simp_all
theorem RQ.mu {K : PySem.W.Frag} {H H1 : Hp} {F Pd : Addr} {H' : Hp} {bs : List Bool} {ps : List Nat} (q : RQ K H H1 F Pd H' bs ps) : mu F Pd H' = 2 * nf bs + ps.length := by
  unfold My.mu
  rw [q.f, q.p]
  show 2 * ((bs.map V.bl).filter _).length + (ps.map nI).length = _
  rw [nf_map, List.length_map]
theorem RQ.setP {K : PySem.W.Frag} {H H1 : Hp} {F Pd : Addr} {H' : Hp} {bs : List Bool} {ps : List Nat} (q : RQ K H H1 F Pd H' bs ps) (nP : H Pd = none) (hFP : F ≠ Pd) (qs : List Nat) : RQ K H H1 F Pd (upd H' Pd (.lst (qs.map nI))) bs qs :=
  ⟨by rw [upd_ne hFP]; exact q.f, upd_same, sUpd q.s nP, q.k.tr (KT.put q.p)⟩
theorem RQ.setF {K : PySem.W.Frag} {H H1 : Hp} {F Pd : Addr} {H' : Hp} {bs : List Bool} {ps : List Nat} (q : RQ K H H1 F Pd H' bs ps) (nF : H F = none) (hFP : F ≠ Pd) (bs2 : List Bool) : RQ K H H1 F Pd (upd H' F (.lst (bs2.map V.bl))) bs2 ps :=
  ⟨upd_same, by rw [upd_ne hFP.symm]; exact q.p, sUpd q.s nF, q.k.tr (KT.put q.f)⟩
theorem RI.push {cs : List PyData} {rs : List (List Int)} {bs : List Bool} {ps : List Nat} {ex : Nat → Prop} {k : Nat} (h : RI cs rs bs ps ex) (hk : k < cs.length) (hf : bs[k]? = some false) (hr : Rc cs rs k) : RI cs rs (bs.set k true) (ps ++ [k]) ex := by
  have hl : k < bs.length := by rw [h.len]; exact hk
  have mono : ∀ i : Nat, bs[i]? = some true → (bs.set k true)[i]? = some true := fun i e => by
    by_cases c : i = k
    · subst c; rw [hf] at e; cases e
    · rw [List.getElem?_set_ne (fun z => c z.symm)]; exact e
  have back : ∀ i : Nat, (bs.set k true)[i]? = some true → i = k ∨ bs[i]? = some true := fun i e => by
    by_cases c : i = k
    · exact .inl c
    · rw [List.getElem?_set_ne (fun z => c z.symm)] at e; exact .inr e
  refine ⟨by rw [List.length_set]; exact h.len, fun i hi => ?_, fun i e => ?_, mono 0 h.z, fun i e => ?_, fun i hi => ?_⟩
  · rcases List.mem_append.mp hi with c | c
    · exact h.lt i c
    · rw [List.mem_singleton.mp c]; exact hk
  · rcases back i e with c | c
    · rw [c]; exact hr
    · exact h.snd i c
  · rcases back i e with c | c
    · exact .inl (by rw [c]; simp)
    · rcases h.cl i c with z | z | z
      · exact .inl (List.mem_append_left _ z)
      · exact .inr (.inl z)
      · exact .inr (.inr fun q hq => mono _ (z q hq))
  · rcases List.mem_append.mp hi with c | c
    · exact mono i (h.pt i c)
    · rw [List.mem_singleton.mp c]; exact List.getElem?_set_self hl
section
variable {P : Program} {w : World} {K : PySem.W.Frag} {mg : Str → Option Value} {base : Heap} {a : Ad}
theorem ok_reached (T : Txt K mg a) : FnOk P w K mg base CX0 4 a.f_reached a.d_reached ["unit"] (spReached K a.C_Unit) := by
  have G_edges : FnOk P w K mg base CX0 3 _ _ _ _ := ok_edges T
  refine T.F_reached.ok sc_reached (fun vs H Q E h => ?_) (fun cdv A outer s H vs Q E hr h => ?_)
  · obtain ⟨_, _, rfl, _⟩ := h; rfl
  · obtain ⟨p, ⟨cs, rs⟩, rfl, hU, hok, hn, q⟩ := h
    have hz := sizeLine_eq
    have hl1 : cs.length ≤ 100000 := hok.l1
    have hn : 0 < cs.length := hn
    obtain ⟨dx, v0, v1, v2, v3, v4, ca, ra, us, xs, hp, hca, dus, hra, dxs⟩ := hU.at'
    refine ⟨_, (pss_cons (ps_set (i := 1) sc_reached.nd rfl (Or.inl rfl) (pe_call G_edges (hr.mono (by decide)) rfl T.g_edges T.k_edges T.bd_edges .nil pass0 (pa_cons (pv 0) pa_nil)))
      (pss_cons (ps_set (i := 2) sc_reached.nd rfl (Or.inl rfl) (pe_op op_rep (pe_lst (pa_cons pe_bl pa_nil)) (pe_callB call_len_seq (by rfl) T.b_len (by decide +kernel) (pa_cons (pv 1) pa_nil))))
      (pss_cons (ps_asg pe_bl (pg_sub (pv 2) pe_int set_list))
      (pss_cons (ps_set (i := 3) sc_reached.nd rfl (Or.inl rfl) (pe_lst (pa_cons pe_int pa_nil)))
      (pss_cons (ps_while PassesOwn.never (pt_truth (pv 3) (by intro _; rfl)) (pss_one (ps_for PassesOwn.never rfl (pi_tup (pe_ix ix_tup (pv 1) (pe_bm0 PySem.F.plainAttrs_list PySem.F.slot_list_pop PySem.F.type_list_pop mt_pop (pv 3)) (fun _ _ => rfl))) (pg_name (i := 4) sc_reached.nd rfl (Or.inl rfl)) (pss_one (ps_if (pt_not (pt_val (pe_ix ix_list (pv 2) (pv 4) (fun _ _ => rfl)))) (pss_cons (ps_asg pe_bl (pg_sub (pv 2) (pv 4) set_list))
      (pss_one (ps_expr (pe_bm PySem.F.plainAttrs_list PySem.F.slot_list_append PySem.F.type_list_append mt_append (pv 3) (pa_cons (pv 4) pa_nil))))) pss_nil)))))
      (pss_one (ps_ret (pe_callTy call_tuple_of (by rfl) T.b_tuple (by decide +kernel) (pa_cons (pe_lc (own := [("index", 4), ("is_found", 5)]) (g := gTup K 2 (gCons (gName 4) (gCons (gName 5) (gNil)))) rfl sc_reached.nd (pi_enum rfl T.b_enumerate (pa_cons (pv 2) pa_nil)) (blkOk_by (own := [("index", 4), ("is_found", 5)]) (N := ["unit", "ways", "found", "pending", "index", "is_found"]) (sc := defScope s_reached) (by decide +kernel)) (fun _ _ _ _ _ => pg_tup rfl (pgs_cons (pg_name (i := 4) sc_reached.nd rfl (Or.inl rfl)) (pgs_cons (pg_name (i := 5) sc_reached.nd rfl (Or.inl rfl)) (pgs_nil)))) (fun _ _ _ _ _ => (pts_one (pt_val (pv 5)))) (fun _ _ _ _ _ => (pv 4))) pa_nil))))))))), ?_⟩
    refine ⟨_, rfl, p, dx, _, _, _, _, _, ca, ra, us, xs, cs, rs, rfl, hp, hca, dus, hok.i, hl1, hra, dxs, hok.r, fun u H1 du ss1 => ?_⟩
    obtain ⟨wa, ws, rfl, hws, dws⟩ := du.ts
    have hwl := dws.len
    rw [List.length_map, List.length_range] at hwl
    refine ⟨(by show 1 ≤ sizeLine; decide), fun f0 nf0 => ?_⟩
    have ss2 := sN ss1 nf0 (o := .lst [.bl false])
    have k2 : KT K H1 (upd H1 f0 (.lst [.bl false])) := KT.new nf0
    refine ⟨_, rfl, _, _, rfl, .inr (k2 _ _ hws), f0, _, _, rfl, rfl, upd_same, by omega, by omega, by simp; omega, fun F nF => ?_⟩
    have nF0 := none_of ss2 nF
    refine ⟨_, rfl, F, _, 0, 0, rfl, rfl, upd_same, ixN_nat (by simp; omega), ?_⟩
    refine ⟨(by show 1 ≤ sizeLine; decide), fun Pd nPd => ?_⟩
    have nPd0 : H Pd = none := none_of (sUpd (sN ss2 nF) nF0) nPd
    have hFP : F ≠ Pd := ne_of_none upd_same nPd
    have hb0 : (List.replicate ((ws.length : Nat) : Int).toNat [V.bl false]).flatten.set 0 (V.bl true) = ((List.replicate cs.length false).set 0 true).map V.bl := by
      rw [hwl, Int.toNat_natCast, List.map_set, List.map_replicate]
      congr 1
      exact List.flatten_replicate_singleton
    rw [hb0] at nPd ⊢
    have hH : ∀ {Hx : Hp}, Hx = upd (upd (upd (upd H1 f0 (.lst [.bl false])) F (.lst (List.replicate ((ws.length : Nat) : Int).toNat [V.bl false]).flatten)) F (.lst (((List.replicate cs.length false).set 0 true).map V.bl))) Pd (.lst [.int 0]) → RQ K H H1 F Pd Hx ((List.replicate cs.length false).set 0 true) [0] := fun {Hx} e => by
      rw [e]
      refine ⟨by rw [upd_ne hFP]; exact upd_same, upd_same, sN (sUpd (sN ss2 nF) nF0) nPd, ?_⟩
      exact ((k2.tr (KT.new nF)).tr (KT.put upd_same)).tr (KT.new nPd)
    generalize upd (upd (upd (upd H1 f0 _) F _) F _) Pd _ = H3 at hH ⊢
    have hQ := hH rfl
    clear hH hb0 nPd
    have hI : RI cs rs ((List.replicate cs.length false).set 0 true) [0] (fun _ => False) := by
      have hb : ∀ i : Nat, ((List.replicate cs.length false).set 0 true)[i]? = some true → i = 0 := fun i e => by
        by_cases c : i = 0
        · exact c
        · rw [List.getElem?_set_ne (by omega), List.getElem?_replicate] at e
          split at e <;> cases e
      have h0 : ((List.replicate cs.length false).set 0 true)[0]? = some true := List.getElem?_set_self (by simpa using hn)
      refine ⟨by simp, fun i hi => ?_, fun i e => ?_, h0, fun i e => .inl ?_, fun i hi => ?_⟩
      · rw [List.mem_singleton.mp hi]; exact hn
      · rw [hb i e]; exact .z
      · rw [hb i e]; exact List.mem_singleton_self 0
      · rw [List.mem_singleton.mp hi]; exact h0
    have hM : 2 * nf ((List.replicate cs.length false).set 0 true) + ([0] : List Nat).length ≤ 200001 := by
      have : nf ((List.replicate cs.length false).set 0 true) ≤ ((List.replicate cs.length false).set 0 true).length := List.length_filter_le _ _
      rw [List.length_set, List.length_replicate] at this
      show _ + 1 ≤ _
      omega
    generalize (List.replicate cs.length false).set 0 true = bs0 at hQ hI hM
    generalize ([0] : List Nat) = ps0 at hQ hI hM
    with_reducible refine gN_in ?_
    with_reducible refine tS_in ?_
    with_reducible refine tW_in ?_
    refine while_by (fun σ H' => ∃ (o4 : Option V) (bs : List Bool) (ps : List Nat), σ = [some (.ref p), some (.ref wa), some (.ref F), some (.ref Pd), o4, none] ∧ RQ K H H1 F Pd H' bs ps ∧ RI cs rs bs ps (fun _ => False) ∧ 2 * nf bs + ps.length ≤ 200001) (fun _ H' => mu F Pd H') ⟨_, bs0, ps0, rfl, hQ, hI, hM⟩ ?_ ?_
    · rintro σ H4 ⟨o4, bs, ps, rfl, Q4, I4, hM4⟩
      refine ⟨_, rfl, !ps.isEmpty, .inl ⟨_, SqL.of Q4.p, by cases ps <;> rfl⟩, ?_⟩
      cases hps : ps.isEmpty with
      | true =>
        refine iteF ?_
        obtain rfl : ps = [] := List.isEmpty_iff.mp hps
        have hbl := I4.len
        refine ⟨_, rfl, F, bs.map V.bl, rfl, SqL.of Q4.f, fun D nD => ?_⟩
        have hFD : F ≠ D := ne_of_none Q4.f nD
        refine lc_it (walk_enum (K := K) (a := F) (xs := bs.map V.bl)) (fun m H' => H' D = some (.lst (((List.range m).filter fun i => bs.getD i false).map nI)) ∧ Same H4 H') ⟨upd_same, sN (Same.refl _) nD⟩ (fun m H' _ h => SqL.of (h.2 _ _ Q4.f)) ?_ ?_
        · rintro m x H5 H6 hm ⟨hD, s5⟩ ⟨T', x1, x2, rfl, nT, rfl, e1, e2⟩
          obtain rfl : V.int (m : Int) = x1 := by injection e1
          rw [List.length_map] at hm
          obtain rfl : V.bl bs[m] = x2 := by
            have e2 : (bs.map V.bl)[m]? = some x2 := e2
            rw [List.getElem?_map, List.getElem?_eq_getElem hm] at e2
            injection e2
          have hD6 := sN (Same.refl H5) nT (o := .tup [.int (m : Int), .bl bs[m]]) _ _ hD
          have hg : bs.getD m false = bs[m] := by simp [List.getD, hm]
          refine ⟨T', _, rfl, SqT.of upd_same, rfl, _, _, rfl, _, _, rfl, rfl, by rw [wipe_set (by decide), wipe_set (by decide), wipe_wipe], ?_⟩
          have hflt : (List.range (m + 1)).filter (fun i => bs.getD i false) = ((List.range m).filter fun i => bs.getD i false) ++ (if bs[m] = true then [m] else []) := by
            rw [List.range_succ, List.filter_append]
            congr 1
            simp only [List.filter_cons, List.filter_nil, hg]
          have hll : ((List.range m).filter fun i => bs.getD i false).length ≤ m := Nat.le_trans (List.length_filter_le _ _) (by rw [List.length_range]; exact Nat.le_refl _)
          rw [hflt]
          have s6 := sN s5 nT (o := .tup [.int (m : Int), .bl bs[m]])
          generalize upd H5 T' (.tup [.int (m : Int), .bl bs[m]]) = H6 at hD6 s6 ⊢
          refine ⟨_, rfl, _, rfl, ite3 (fun c => ?_) (fun c => ?_)⟩
          · refine ⟨_, rfl, _, hD6, by rw [List.length_map]; omega, ?_, sUpd s6 nD⟩
            rw [if_pos c, List.map_append]
            exact upd_same
          · refine ⟨?_, s6⟩
            rw [c, if_neg (by decide), List.append_nil]
            exact hD6
        rintro H5 ⟨hD, s5⟩
        refine ⟨D, _, rfl, .inl ⟨SqL.of hD, fun pu npu => ?_⟩⟩
        refine q _ _ (fun i => bs.getD i false) (fun i hi => ?_) ?_ (sN (sTr Q4.s s5) npu)
        · have hib : i < bs.length := by rw [hbl]; exact hi
          have hg : bs.getD i false = true ↔ bs[i]? = some true := by simp [List.getD, hib]
          rw [hg]
          refine ⟨I4.snd i, fun h => ?_⟩
          clear hg hib hi
          induction h with
          | z => exact I4.z
          | @s i j hi hil hw ih =>
            rcases I4.cl i ih with c | c | c
            · cases c
            · exact c.elim
            · have := c _ hw
              simpa using this
        · unfold rchD
          rw [← hbl, ← List.length_map (as := bs) (f := V.bl)]
          rw [List.length_map] at hD ⊢
          exact lay npu (dts_nI _)
      | false =>
        refine iteT ?_
        rcases List.eq_nil_or_concat ps with rfl | ⟨qs, j, hqs⟩
        · cases hps
        rw [List.concat_eq_append] at hqs
        subst hqs
        have hmu : mu F Pd H4 = 2 * nf bs + (qs ++ [j]).length := Q4.mu
        have hjn := I4.lt j (by simp)
        have hjt := I4.pt j (by simp)
        have Q5 := Q4.setP nPd0 hFP qs
        have e5 : (List.map nI (qs ++ [j])).dropLast = qs.map nI := by rw [List.map_append]; exact List.dropLast_concat
        refine ⟨_, rfl, _, rfl, .inl ⟨rfl, _, SqL.of Q4.p⟩, Pd, (qs ++ [j]).map nI, nI j, rfl, rfl, Q4.p, by simp, ?_⟩
        rw [e5]
        obtain ⟨vj, ej, dj⟩ := (dws.keep Q5.k).it j (d := edgeF cs rs j) (by simp [hjn])
        obtain ⟨pj, xj, rfl, hxj, dxj⟩ := DT.ts (ds := (canon (wayL (cs.getD j .none) rs (j : Int))).map .int) dj
        obtain rfl := dxj.ints
        refine ⟨_, _, _, _, rfl, rfl, Q5.k _ _ hws, ej, ?_⟩
        refine ⟨pj, rfl, ⟨_, hxj⟩, ?_⟩
        have I5 : RI cs rs bs qs (fun i => i = j) := ⟨I4.len, fun i hi => I4.lt i (by simp [hi]), I4.snd, I4.z, fun i e => by
          rcases I4.cl i e with c | c | c
          · rcases List.mem_append.mp c with h | h
            · exact .inl h
            · exact .inr (.inl (List.mem_singleton.mp h))
          · exact c.elim
          · exact .inr (.inr c), fun i hi => I4.pt i (by simp [hi])⟩
        have hRj := I4.snd j hjt
        generalize upd H4 Pd (.lst (qs.map nI)) = H5 at Q5 hxj ⊢
        refine for_tup (K := K) (a := pj) (xs := (canon (wayL (cs.getD j .none) rs (j : Int))).map V.int) (fun m σ H' => ∃ (o4 : Option V) (bs' : List Bool) (ps' : List Nat), σ = [some (.ref p), some (.ref wa), some (.ref F), some (.ref Pd), o4, none] ∧ RQ K H H1 F Pd H' bs' ps' ∧ KT K H5 H' ∧ RI cs rs bs' ps' (fun i => i = j) ∧ (∀ k ∈ (canon (wayL (cs.getD j .none) rs (j : Int))).take m, bs'[k.toNat]? = some true) ∧ 2 * nf bs' + ps'.length ≤ 2 * nf bs + qs.length)
          ⟨_, bs, qs, rfl, Q5, KT.same (Same.refl _), I5, fun k hk => by simp at hk, Nat.le_refl _⟩ (fun m σ H' _ ⟨_, _, _, _, _, kt, _⟩ => kt _ _ hxj) ?_ ?_
        · rintro m x σ H6 hx ⟨o, bs', ps', rfl, Q6, kt, I6, hm, hle⟩
          rw [List.getElem?_map] at hx
          obtain ⟨k, ek, rfl⟩ := Option.map_eq_some_iff.mp hx
          have hkw : k ∈ wayL (cs.getD j .none) rs (j : Int) := mem_canon.mp (List.mem_of_getElem? ek)
          obtain ⟨k0, k1⟩ : 0 ≤ k ∧ k < (cs.length : Int) := way_in hok hjn hkw
          obtain ⟨kn, rfl⟩ : ∃ kn : Nat, k = (kn : Int) := ⟨k.toNat, by omega⟩
          have hkl : kn < bs'.length := by rw [I6.len]; show kn < cs.length; omega
          have hat : atI (bs'.map V.bl) (kn : Int) = some (.bl bs'[kn]) := atI_nat (by rw [List.getElem?_map, List.getElem?_eq_getElem hkl]; rfl)
          have htk : (canon (wayL (cs.getD j .none) rs (j : Int))).take (m + 1) = (canon (wayL (cs.getD j .none) rs (j : Int))).take m ++ [(kn : Int)] := by
            rw [List.take_succ, ek]; rfl
          refine ⟨_, rfl, _, rfl, _, _, _, _, rfl, rfl, SqL.of Q6.f, hat, _, rfl, ?_⟩
          cases hbk : bs'[kn] with
          | true =>
            refine iteF ?_
            refine ⟨_, bs', ps', rfl, Q6, kt, I6, fun q hq => ?_, hle⟩
            rw [htk] at hq
            rcases List.mem_append.mp hq with c | c
            · exact hm q c
            · rw [List.mem_singleton.mp c, Int.toNat_natCast, List.getElem?_eq_getElem hkl, hbk]
          | false =>
            have hf : bs'[kn]? = some false := by rw [List.getElem?_eq_getElem hkl, hbk]
            have hkn : kn < cs.length := by omega
            have hns := nf_set bs' kn hf
            have hpl : ps'.length < sizeLine := by
              rw [List.length_append, List.length_singleton] at hM4
              omega
            refine iteT ?_
            have Q7 := Q6.setF nF0 hFP (bs'.set kn true)
            have es : (bs'.map V.bl).set kn (V.bl true) = (bs'.set kn true).map V.bl := by rw [List.map_set]
            refine ⟨_, rfl, _, rfl, F, _, _, kn, rfl, rfl, Q6.f, ixN_nat (by rw [List.length_map]; exact hkl), ?_⟩
            rw [es]
            refine ⟨_, rfl, .inl ⟨rfl, _, SqL.of Q7.p⟩, _, rfl, Pd, _, _, rfl, rfl, Q7.p, by rw [List.length_map]; exact hpl, ?_⟩
            have e8 : ps'.map nI ++ [V.int (kn : Int)] = (ps' ++ [kn]).map nI := by rw [List.map_append]; rfl
            rw [e8]
            refine ⟨_, _, _, rfl, Q7.setP nPd0 hFP (ps' ++ [kn]), (kt.tr (KT.put Q6.f)).tr (KT.put Q7.p), I6.push hkn hf (.s hRj hjn hkw), fun q hq => ?_, by rw [List.length_append, List.length_singleton]; omega⟩
            rw [htk] at hq
            rcases List.mem_append.mp hq with c | c
            · have h1 := hm q c
              by_cases z : kn = q.toNat
              · rw [← z]; exact List.getElem?_set_self hkl
              · rw [List.getElem?_set_ne z]; exact h1
            · rw [List.mem_singleton.mp c, Int.toNat_natCast]
              exact List.getElem?_set_self hkl
        rintro σ H6 ⟨o, bs', ps', rfl, Q6, kt, I6, hm, hle⟩
        refine ⟨⟨_, bs', ps', rfl, Q6, ⟨I6.len, I6.lt, I6.snd, I6.z, fun i e => ?_, I6.pt⟩, by rw [List.length_append, List.length_singleton] at hM4; omega⟩, ?_⟩
        · rcases I6.cl i e with c | c | c
          · exact .inl c
          · subst c
            refine .inr (.inr fun k hk => hm k ?_)
            rw [List.length_map, List.take_length]
            exact mem_canon.mpr hk
          · exact .inr (.inr c)
        · rw [Q6.mu, hmu, List.length_append, List.length_singleton]
          omega
    · rintro σ H' Q1 Q2 h ⟨x, e, k, t, z⟩
      exact ⟨x, e, k, t, h _ _ z⟩
end

/-! ### what the law reaches -/
def spReachL (K : PySem.W.Frag) : Sp := fun vs H Q _ => ∃ (v1 v2 : V) (cs : List PyData) (rs : List (List Int)), vs = [v1, v2] ∧ DT K H v1 (.tuple cs) ∧ DT K H v2 (.tuple (rs.map regD)) ∧ CodeOk cs rs ∧ 0 < cs.length ∧ ∀ (u : V) (H' : Hp) (f : Nat → Bool), (∀ i, i < cs.length → (f i = true ↔ Rc cs rs i)) → DT K H' u (rchD cs.length f) → Same H H' → Q u H'
def Le (bs bs' : List Bool) : Prop := ∀ i : Nat, bs[i]? = some true → bs'[i]? = some true
theorem nf_le : ∀ {bs bs' : List Bool}, bs.length = bs'.length → Le bs bs' → nf bs' ≤ nf bs ∧ (bs ≠ bs' → nf bs' + 1 ≤ nf bs)
  | [], [], _, _ => ⟨Nat.le_refl _, fun h => absurd rfl h⟩
  | [], _ :: _, h, _ => by cases h
  | _ :: _, [], h, _ => by cases h
  | b :: r, b' :: r', h, le => by
    obtain ⟨i1, i2⟩ := nf_le (bs := r) (bs' := r') (by simpa using h) (fun i e => by have := le (i + 1) (by simpa using e); simpa using this)
    have h0 := le 0
    have e1 : ∀ (x : Bool) (t : List Bool), nf (x :: t) = (if x then 0 else 1) + nf t := fun x t => by
      unfold nf
      cases x <;> simp <;> omega
    rw [e1, e1]
    cases b <;> cases b'
    · refine ⟨by simp; omega, fun z => ?_⟩
      have := i2 (fun e => z (by rw [e]))
      simp; omega
    · exact ⟨by simp; omega, fun _ => by simp; omega⟩
    · simp at h0
    · refine ⟨by simp; omega, fun z => ?_⟩
      have := i2 (fun e => z (by rw [e]))
      simp; omega
theorem dp_b {K : PySem.W.Frag} {H : Hp} : ∀ (bs : List Bool), DpAll K H (bs.map V.bl) (bs.map PyData.bool)
  | [] => .nil
  | b :: r => .cons (.bl b) (dp_b r)
theorem can_b : ∀ (bs : List Bool), PyData.canLayAll0 (bs.map PyData.bool) = true
  | [] => rfl
  | b :: r => by
    rw [List.map_cons]
    unfold PyData.canLayAll0
    rw [can_b r]
    rfl
theorem dep_b : ∀ (bs : List Bool), PyData.depthAll (bs.map PyData.bool) = 0
  | [] => rfl
  | b :: r => by
    rw [List.map_cons]
    unfold PyData.depthAll
    rw [dep_b r]
    rfl
theorem sh_b (bs : List Bool) : SeqAt.shaped (.list (bs.map .bool)) = true := by
  show (PyData.canLayAll0 _ && decide (PyData.depthAll _ + 1 ≤ 64)) = true
  rw [can_b, dep_b]
  rfl
theorem eqvAll_b : ∀ {bs bs' : List Bool}, PyData.eqvAll (bs.map PyData.bool) (bs'.map PyData.bool) = true ↔ bs = bs'
  | [], [] => ⟨fun _ => rfl, fun _ => rfl⟩
  | [], _ :: _ => ⟨(fun h => nomatch h), (fun h => nomatch h)⟩
  | _ :: _, [] => ⟨(fun h => nomatch h), (fun h => nomatch h)⟩
  | b :: r, b' :: r' => by
    rw [List.map_cons, List.map_cons]
    unfold PyData.eqvAll
    rw [Bool.and_eq_true, eqvAll_b (bs := r) (bs' := r')]
    show (b == b') = true ∧ _ ↔ _
    rw [beq_iff_eq, List.cons.injEq]
theorem eqv_b {bs bs' : List Bool} : PyData.eqv (.list (bs.map .bool)) (.list (bs'.map .bool)) = true ↔ bs = bs' := eqvAll_b
section
variable {P : Program} {w : World} {K : PySem.W.Frag} {mg : Str → Option Value} {base : Heap} {a : Ad}
theorem ok_law_reached (T : Txt K mg a) : FnOk P w K mg base CX0 2 a.f_law_reached a.d_law_reached ["code", "regions"] (spReachL K) := by
  have G_law_ways : FnOk P w K mg base CX0 1 _ _ _ _ := ok_law_ways T
  refine T.F__law_reached.ok sc_law_reached (fun vs H Q E h => ?_) (fun cdv A outer s H vs Q E hr h => ?_)
  · obtain ⟨_, _, _, _, rfl, _⟩ := h; rfl
  · obtain ⟨v1, v2, cs, rs, rfl, D1, D2, hok, hn, q⟩ := h
    have hz := sizeLine_eq
    have hl1 := hok.l1
    obtain ⟨a1, us, rfl, h1, d1⟩ := D1.ts
    have hul := d1.len
    refine ⟨_, (pss_cons (ps_set (i := 2) sc_law_reached.nd rfl (Or.inr rfl) (pe_lc (own := [("index", 3)]) (g := gName 3) rfl sc_law_reached.nd (pi_range1 rfl T.b_range (pa_cons (pe_callB call_len_seq (by rfl) T.b_len (by decide +kernel) (pa_cons (pv 0) pa_nil)) pa_nil)) (blkOk_by (own := [("index", 3)]) (N := ["code", "regions", "seen", "index", "k", "before", "way"]) (sc := defScope s_law_reached) (by decide +kernel)) (fun _ _ _ _ _ => pg_name (i := 3) sc_law_reached.nd rfl (Or.inl rfl)) (fun _ _ _ _ _ => pts_nil) (fun _ _ _ _ _ => (pe_cmpR op_eq (pv 3) pe_int (nomark _)))))
      (C8.pss_cut (ps_for PassesOwn.never rfl (pi_range1 rfl T.b_range (pa_cons (pe_callB call_len_seq (by rfl) T.b_len (by decide +kernel) (pa_cons (pv 0) pa_nil)) pa_nil)) (pg_name (i := 4) sc_law_reached.nd rfl (Or.inl rfl)) (pss_cons (ps_set (i := 5) sc_law_reached.nd rfl (Or.inl rfl) (pe_callTy call_list_of (by rfl) T.b_list (by decide +kernel) (pa_cons (pv 2) pa_nil)))
      (pss_cons (ps_for PassesOwn.never rfl (pi_range1 rfl T.b_range (pa_cons (pe_callB call_len_seq (by rfl) T.b_len (by decide +kernel) (pa_cons (pv 0) pa_nil)) pa_nil)) (pg_name (i := 3) sc_law_reached.nd rfl (Or.inl rfl)) (pss_one (ps_if (pt_val (pe_ix ix_list (pv 2) (pv 3) (fun _ _ => rfl))) (pss_one (ps_for PassesOwn.never rfl (pi_tup (pe_call G_law_ways (hr.mono (by decide)) rfl T.g__law_ways T.k__law_ways T.bd__law_ways .nil pass0 (pa_cons (pv 0) (pa_cons (pv 1) (pa_cons (pv 3) pa_nil))))) (pg_name (i := 6) sc_law_reached.nd rfl (Or.inl rfl)) (pss_one (ps_asg pe_bl (pg_sub (pv 2) (pv 6) set_list))))) pss_nil)))
      (pss_one (ps_if (pt_cmpR (op_eqD hr.units) (pv 5) (pv 2) (nomark _)) (pss_one ps_break) pss_nil)))))
      (pss_one (ps_ret (pe_callTy call_tuple_of (by rfl) T.b_tuple (by decide +kernel) (pa_cons (pe_lc (own := [("index", 3)]) (g := gName 3) rfl sc_law_reached.nd (pi_range1 rfl T.b_range (pa_cons (pe_callB call_len_seq (by rfl) T.b_len (by decide +kernel) (pa_cons (pv 0) pa_nil)) pa_nil)) (blkOk_by (own := [("index", 3)]) (N := ["code", "regions", "seen", "index", "k", "before", "way"]) (sc := defScope s_law_reached) (by decide +kernel)) (fun _ _ _ _ _ => pg_name (i := 3) sc_law_reached.nd rfl (Or.inl rfl)) (fun _ _ _ _ _ => (pts_one (pt_val (pe_ix (ix_listK (K := K) rfl) (pv 2) (pv 3) (fun _ _ => rfl))))) (fun _ _ _ _ _ => (pv 3))) pa_nil)))))), ?_⟩
    refine ⟨_, rfl, _, _, rfl, .inr h1, _, rfl, by omega, by omega, fun S nS => ?_⟩
    refine lc_range (lo := 0) (n := ((us.length : Nat) : Int).toNat) (fun m H' => H' S = some (.lst (((List.range m).map fun i => decide (i = 0)).map V.bl)) ∧ Same H H') ⟨upd_same, sN (Same.refl _) nS⟩ ?_ ?_
    · rintro m H' hm ⟨hS, ss⟩
      refine ⟨rfl, ?_⟩
      refine ⟨_, rfl, rfl, _, hS, by simp; omega, ?_, sUpd ss nS⟩
      rw [upd_same, List.range_succ, List.map_append, List.map_append]
      congr 1
      congr 1
      congr 1
      show [V.bl (decide (V.int (0 + (m : Int)) = V.int 0))] = [V.bl (decide (m = 0))]
      congr 2
      by_cases e : m = 0
      · subst e; rfl
      · rw [decide_eq_false e]
        refine decide_eq_false fun z => e ?_
        injection z with z
        omega
    rintro H1 ⟨hS, ss1⟩
    rw [hul, Int.toNat_natCast] at hS
    have b0l : ((List.range cs.length).map fun i => decide (i = 0)).length = cs.length := by simp
    have b0 : ∀ i : Nat, ((List.range cs.length).map fun i => decide (i = 0))[i]? = some true → i = 0 := fun i e => by
      rw [List.getElem?_map] at e
      obtain ⟨x, e1, e2⟩ := Option.map_eq_some_iff.mp e
      have := (List.getElem?_eq_some_iff.mp e1).2
      simp at this e2
      omega
    have b00 : ((List.range cs.length).map fun i => decide (i = 0))[0]? = some true := by
      rw [List.getElem?_map, List.getElem?_range hn]
      rfl
    have bnf : 0 + 1 + nf ((List.range cs.length).map fun i => decide (i = 0)) ≤ cs.length := by
      obtain ⟨n, hn'⟩ : ∃ n, cs.length = n + 1 := ⟨cs.length - 1, by omega⟩
      rw [hn', List.range_succ_eq_map, List.map_cons]
      have : nf (decide (0 = 0) :: List.map (fun i => decide (i = 0)) (List.map Nat.succ (List.range n))) ≤ n := by
        unfold nf
        have h1 : (decide (0 = 0) :: List.map (fun i => decide (i = 0)) (List.map Nat.succ (List.range n))).filter (fun b => !b) = (List.map (fun i => decide (i = 0)) (List.map Nat.succ (List.range n))).filter (fun b => !b) := rfl
        rw [h1]
        refine Nat.le_trans (List.length_filter_le _ _) ?_
        rw [List.length_map, List.length_map, List.length_range]
        exact Nat.le_refl _
      omega
    generalize ((List.range cs.length).map fun i => decide (i = 0)) = bs0 at hS b0l b0 b00 bnf
    refine ⟨fun σ H' => ∃ (o3 o4 o5 o6 : Option V) (bs : List Bool), σ = [some (.ref a1), some v2, some (.ref S), o3, o4, o5, o6] ∧ H' S = some (.lst (bs.map V.bl)) ∧ bs.length = cs.length ∧ bs[0]? = some true ∧ (∀ i : Nat, bs[i]? = some true → Rc cs rs i) ∧ (∀ i : Nat, bs[i]? = some true → ∀ k, k ∈ wayL (cs.getD i .none) rs (i : Int) → bs[k.toNat]? = some true) ∧ Same H H', ?_, ?_⟩
    · refine ⟨_, rfl, _, _, rfl, .inr (seqT ss1 h1), _, rfl, by omega, by omega, ?_⟩
      refine for_range (lo := 0) (n := ((us.length : Nat) : Int).toNat) (fun m σ H' => ∃ (o3 o4 o5 o6 : Option V) (bs : List Bool), σ = [some (.ref a1), some v2, some (.ref S), o3, o4, o5, o6] ∧ H' S = some (.lst (bs.map V.bl)) ∧ bs.length = cs.length ∧ bs[0]? = some true ∧ (∀ i : Nat, bs[i]? = some true → Rc cs rs i) ∧ m + 1 + nf bs ≤ cs.length ∧ Same H H')
        ⟨_, _, _, _, bs0, rfl, hS, b0l, b00, fun i e => by rw [b0 i e]; exact .z, bnf, ss1⟩ ?_ ?_
      · rintro m σ H2 hm ⟨o3, o4, o5, o6, bs, rfl, hS, hbl, hb0, hsd, hnf, ss⟩
        refine ⟨_, rfl, S, _, rfl, .inl (SqL.of hS), fun B nB => ?_⟩
        have hSB : S ≠ B := ne_of_none hS nB
        have sB := sN (Same.refl H2) nB (o := .lst (bs.map V.bl))
        have ssB := sTr ss sB
        refine ⟨_, rfl, _, _, rfl, .inr (seqT ssB h1), _, rfl, by omega, by omega, ?_⟩
        refine for_range (lo := 0) (n := ((us.length : Nat) : Int).toNat) (fun x σ H' => ∃ (o5 o6 : Option V) (bs' : List Bool), σ = [some (.ref a1), some v2, some (.ref S), o5, some (.int (0 + (m : Int))), some (.ref B), o6] ∧ H' S = some (.lst (bs'.map V.bl)) ∧ H' B = some (.lst (bs.map V.bl)) ∧ bs'.length = cs.length ∧ Le bs bs' ∧ (∀ i : Nat, bs'[i]? = some true → Rc cs rs i) ∧ (∀ i : Nat, i < x → bs[i]? = some true → ∀ k, k ∈ wayL (cs.getD i .none) rs (i : Int) → bs'[k.toNat]? = some true) ∧ Same H H')
          ⟨_, _, bs, rfl, sB _ _ hS, upd_same, hbl, fun i e => e, hsd, fun i hi => by omega, ssB⟩ ?_ ?_
        · rintro x σ H3 hx ⟨o5, o6, bs', rfl, hS3, hB3, hl3, le3, sd3, cl3, ss3⟩
          have e0 : (0 : Int) + (x : Int) = (x : Int) := Int.zero_add _
          rw [e0]
          have hxc : x < cs.length := by omega
          have hxl : x < bs'.length := by omega
          have hat : atI (bs'.map V.bl) (x : Int) = some (.bl bs'[x]) := atI_nat (by rw [List.getElem?_map, List.getElem?_eq_getElem hxl]; rfl)
          refine ⟨_, rfl, _, rfl, _, _, _, _, rfl, rfl, SqL.of hS3, hat, _, rfl, ite3 (fun c => ?_) (fun c => ?_)⟩
          · have hxt : bs'[x]? = some true := by rw [List.getElem?_eq_getElem hxl, c]
            have hRx := sd3 x hxt
            refine ⟨_, rfl, _, rfl, _, rfl, _, _, cs, rs, x, rfl, (DT.tup h1 d1).keep (KT.same ss3), D2.keep (KT.same ss3), hok, hxc, fun u H4 du s4 => ?_⟩
            obtain ⟨pj, xj, rfl, hxj, dxj⟩ := DT.ts (ds := (canon (wayL (cs.getD x .none) rs (x : Int))).map .int) du
            obtain rfl := dxj.ints
            refine ⟨pj, rfl, ⟨_, hxj⟩, ?_⟩
            refine for_tup (K := K) (a := pj) (xs := (canon (wayL (cs.getD x .none) rs (x : Int))).map V.int) (fun t σ H' => ∃ (o6 : Option V) (bs2 : List Bool), σ = [some (.ref a1), some v2, some (.ref S), some (.int (x : Int)), some (.int (0 + (m : Int))), some (.ref B), o6] ∧ H' S = some (.lst (bs2.map V.bl)) ∧ H' B = some (.lst (bs.map V.bl)) ∧ bs2.length = cs.length ∧ Le bs' bs2 ∧ (∀ i : Nat, bs2[i]? = some true → Rc cs rs i) ∧ (∀ k ∈ (canon (wayL (cs.getD x .none) rs (x : Int))).take t, bs2[k.toNat]? = some true) ∧ Same H H' ∧ KT K H4 H')
              ⟨_, bs', rfl, s4 _ _ hS3, s4 _ _ hB3, hl3, fun i e => e, sd3, fun k hk => by simp at hk, sTr ss3 s4, KT.same (Same.refl _)⟩ (fun t σ H' _ ⟨_, _, _, _, _, _, _, _, _, _, kt⟩ => kt _ _ hxj) ?_ ?_
            · rintro t v σ H5 hx5 ⟨o6, bs2, rfl, hS5, hB5, hl5, le5, sd5, cl5, ss5, kt⟩
              rw [List.getElem?_map] at hx5
              obtain ⟨k, ek, rfl⟩ := Option.map_eq_some_iff.mp hx5
              have hkw : k ∈ wayL (cs.getD x .none) rs (x : Int) := mem_canon.mp (List.mem_of_getElem? ek)
              obtain ⟨k0, k1⟩ : 0 ≤ k ∧ k < (cs.length : Int) := way_in hok hxc hkw
              obtain ⟨kn, rfl⟩ : ∃ kn : Nat, k = (kn : Int) := ⟨k.toNat, by omega⟩
              have hkl : kn < bs2.length := by omega
              have htk : (canon (wayL (cs.getD x .none) rs (x : Int))).take (t + 1) = (canon (wayL (cs.getD x .none) rs (x : Int))).take t ++ [(kn : Int)] := by
                rw [List.take_succ, ek]; rfl
              have mono : ∀ i : Nat, bs2[i]? = some true → (bs2.set kn true)[i]? = some true := fun i e => by
                by_cases z : kn = i
                · rw [← z]; exact List.getElem?_set_self hkl
                · rw [List.getElem?_set_ne z]; exact e
              refine ⟨_, rfl, _, rfl, S, _, _, kn, rfl, rfl, hS5, ixN_nat (by rw [List.length_map]; exact hkl), ?_⟩
              rw [show (bs2.map V.bl).set kn (V.bl true) = (bs2.set kn true).map V.bl by rw [List.map_set]]
              refine ⟨_, bs2.set kn true, rfl, upd_same, by rw [upd_ne hSB.symm]; exact hB5, by rw [List.length_set]; exact hl5, fun i e => mono i (le5 i e), fun i e => ?_, fun q hq => ?_, sUpd ss5 nS, kt.tr (KT.put hS5)⟩
              · by_cases z : kn = i
                · rw [← z]; exact .s hRx hxc hkw
                · rw [List.getElem?_set_ne z] at e; exact sd5 i e
              · rw [htk] at hq
                rcases List.mem_append.mp hq with z | z
                · exact mono _ (cl5 q z)
                · rw [List.mem_singleton.mp z, Int.toNat_natCast]
                  exact List.getElem?_set_self hkl
            · rintro σ H5 ⟨o6, bs2, rfl, hS5, hB5, hl5, le5, sd5, cl5, ss5, kt⟩
              refine ⟨_, _, bs2, rfl, hS5, hB5, hl5, fun i e => le5 i (le3 i e), sd5, fun i hi e k hk => ?_, ss5⟩
              by_cases z : i = x
              · subst z
                refine cl5 k ?_
                rw [List.length_map, List.take_length]
                exact mem_canon.mpr hk
              · exact le5 _ (cl3 i (by omega) e k hk)
          · refine ⟨_, _, bs', rfl, hS3, hB3, hl3, le3, sd3, fun i hi e k hk => ?_, ss3⟩
            by_cases z : i = x
            · subst z
              have := le3 i e
              rw [List.getElem?_eq_getElem hxl, c] at this
              cases this
            · exact cl3 i (by omega) e k hk
        · rintro σ H3 ⟨o5, o6, bs', rfl, hS3, hB3, hl3, le3, sd3, cl3, ss3⟩
          refine ⟨_, rfl, _, rfl, .list (bs.map .bool), .list (bs'.map .bool), .lst (SqL.of hB3) (dp_b bs), .lst (SqL.of hS3) (dp_b bs'), sh_b bs, sh_b bs', _, rfl, ite3 (fun c => ?_) (fun c => ?_)⟩
          · have hbb : bs = bs' := eqv_b.mp c
            subst hbb
            refine ⟨_, _, _, _, bs, rfl, hS3, hl3, hb0, hsd, fun i e => cl3 i ?_ e, ss3⟩
            have := (List.getElem?_eq_some_iff.mp e).1
            omega
          · have hbb : bs ≠ bs' := fun e => by
              rw [eqv_b.mpr e] at c
              cases c
            have hlt := (nf_le (by rw [hbl, hl3]) le3).2 hbb
            exact ⟨_, _, _, _, bs', rfl, hS3, hl3, le3 0 hb0, sd3, by omega, ss3⟩
      · rintro σ H2 ⟨o3, o4, o5, o6, bs, rfl, hS, hbl, hb0, hsd, hnf, ss⟩
        omega
    rintro σ H2 ⟨o3, o4, o5, o6, bs, rfl, hS, hbl, hb0, hsd, hcl, ss⟩
    have h1' := seqT ss h1
    refine ⟨_, rfl, _, _, rfl, .inr h1', _, rfl, by omega, by omega, fun D nD => ?_⟩
    refine lc_range (lo := 0) (n := ((us.length : Nat) : Int).toNat) (fun m H' => H' D = some (.lst (((List.range m).filter fun i => bs.getD i false).map nI)) ∧ Same H2 H') ⟨upd_same, sN (Same.refl _) nD⟩ ?_ ?_
    · rintro m H' hm ⟨hD, s5⟩
      have e0 : (0 : Int) + (m : Int) = (m : Int) := Int.zero_add _
      rw [e0]
      have hml : m < bs.length := by omega
      have hg : bs.getD m false = bs[m] := by simp [List.getD, hml]
      have hflt : (List.range (m + 1)).filter (fun i => bs.getD i false) = ((List.range m).filter fun i => bs.getD i false) ++ (if bs[m] = true then [m] else []) := by
        rw [List.range_succ, List.filter_append]
        congr 1
        simp only [List.filter_cons, List.filter_nil, hg]
      have hll : ((List.range m).filter fun i => bs.getD i false).length ≤ m := Nat.le_trans (List.length_filter_le _ _) (by rw [List.length_range]; exact Nat.le_refl _)
      have hat : atI (bs.map V.bl) (m : Int) = some (.bl bs[m]) := atI_nat (by rw [List.getElem?_map, List.getElem?_eq_getElem hml]; rfl)
      rw [hflt]
      refine ⟨rfl, ?_⟩
      refine ⟨_, rfl, _, rfl, _, _, _, _, rfl, rfl, SqL.of (s5 _ _ hS), hat, _, rfl, ite3 (fun c => ?_) (fun c => ?_)⟩
      · refine ⟨_, rfl, _, hD, by rw [List.length_map]; omega, ?_, sUpd s5 nD⟩
        rw [if_pos c, List.map_append]
        exact upd_same
      · refine ⟨?_, s5⟩
        rw [c, if_neg (by decide), List.append_nil]
        exact hD
    rintro H5 ⟨hD, s5⟩
    rw [hul, Int.toNat_natCast] at hD
    refine ⟨D, _, rfl, .inl ⟨SqL.of hD, fun pu npu => ?_⟩⟩
    refine q _ _ (fun i => bs.getD i false) (fun i hi => ?_) (lay npu (dts_nI _)) (sN (sTr ss s5) npu)
    have hib : i < bs.length := by rw [hbl]; exact hi
    have hg : bs.getD i false = true ↔ bs[i]? = some true := by simp [List.getD, hib]
    rw [hg]
    refine ⟨hsd i, fun h => ?_⟩
    clear hg hib hi
    induction h with
    | z => exact hb0
    | @s i j hi hil hw ih =>
      have := hcl i ih _ hw
      simpa using this
end

/-! ### the law -/
def spLaw (K : PySem.W.Frag) : Sp := fun vs H Q _ => ∃ (a : Addr) (ns : List Int), vs = [.ref a] ∧ SqL K H a (ns.map V.int) ∧ ns.length ≤ 63 ∧ ∀ H', Q (.bl true) H'
theorem rch_ok (n : Nat) (f : Nat → Bool) (h : n ≤ 100000) : okD 2 (rchD n f) := by
  refine ⟨fun d hd => ?_, ?_⟩
  · obtain ⟨i, _, rfl⟩ := List.mem_map.mp hd
    trivial
  · rw [List.length_map]
    have := List.length_filter_le f (List.range n)
    rw [List.length_range] at this
    omega
theorem rch_eq {cs : List PyData} {rs : List (List Int)} {f g : Nat → Bool} (hf : ∀ i, i < cs.length → (f i = true ↔ Rc cs rs i)) (hg : ∀ i, i < cs.length → (g i = true ↔ Rc cs rs i)) : rchD cs.length f = rchD cs.length g := by
  unfold rchD
  congr 2
  refine List.filter_congr fun i hi => ?_
  have hi' := List.mem_range.mp hi
  have := (hf i hi').trans (hg i hi').symm
  cases e1 : f i <;> cases e2 : g i <;> simp_all
section
variable {P : Program} {w : World} {K : PySem.W.Frag} {mg : Str → Option Value} {base : Heap} {a : Ad}
theorem ok_law (T : Txt K mg a) : FnOk P w K mg base CX0 40 a.f_law a.d_law ["script"] (spLaw K) := by
  have G_law_state : FnOk P w K mg base CX0 1 _ _ _ _ := ok_law_state T
  have G_law_draw : FnOk P w K mg base CX0 3 _ _ _ _ := ok_law_draw T
  have G_law_heads : FnOk P w K mg base CX0 4 _ _ _ _ := ok_law_heads T
  have G_law_codes : FnOk P w K mg base CX0 23 _ _ _ _ := ok_law_codes T
  have G_law_module : FnOk P w K mg base CX0 3 _ _ _ _ := ok_law_module T
  have G_law_reached : FnOk P w K mg base CX0 2 _ _ _ _ := ok_law_reached T
  have G_law_same : FnOk P w K mg base CX0 3 _ _ _ _ := ok_same T 2
  have G_reached : FnOk P w K mg base CX0 4 _ _ _ _ := ok_reached T
  refine T.F_law.ok sc_law (fun vs H Q E h => ?_) (fun cdv A outer s H vs Q E hr h => ?_)
  · obtain ⟨_, _, rfl, _⟩ := h; rfl
  · obtain ⟨sa, ns, rfl, hS, hl, q⟩ := h
    have hz := sizeLine_eq
    refine ⟨_, (pss_cons (ps_set (i := 1) sc_law.nd rfl (Or.inl rfl) (pe_op op_cat (pe_call G_law_state (hr.mono (by decide)) rfl T.g__law_state T.k__law_state T.bd__law_state .nil pass0 (pa_cons (pv 0) (pa_cons pe_int pa_nil))) (pe_lst (pa_cons pe_int pa_nil))))
      (pss_cons (ps_asg (pe_op op_add pe_int (pe_call G_law_draw (hr.mono (by decide)) rfl T.g__law_draw T.k__law_draw T.bd__law_draw .nil pass0 (pa_cons (pv 1) (pa_cons pe_int pa_nil)))) (pg_sub (pv 1) pe_int set_list))
      (pss_cons (ps_set (i := 2) sc_law.nd rfl (Or.inl rfl) (pe_call G_law_heads (hr.mono (by decide)) rfl T.g__law_heads T.k__law_heads T.bd__law_heads .nil pass0 (pa_cons (pv 1) (pa_cons (pe_op op_add pe_int (pe_call G_law_draw (hr.mono (by decide)) rfl T.g__law_draw T.k__law_draw T.bd__law_draw .nil pass0 (pa_cons (pv 1) (pa_cons pe_int pa_nil)))) pa_nil))))
      (pss_cons (ps_set (i := 3) sc_law.nd rfl (Or.inl rfl) (pe_call G_law_codes (hr.mono (by decide)) rfl T.g__law_codes T.k__law_codes T.bd__law_codes .nil pass0 (pa_cons (pv 1) (pa_cons (pv 2) pa_nil))))
      (pss_cons (ps_set (i := 4) sc_law.nd rfl (Or.inl rfl) (pe_call G_law_module (hr.mono (by decide)) rfl T.g__law_module T.k__law_module T.bd__law_module .nil pass0 (pa_cons (pv 2) (pa_cons (pv 3) pa_nil))))
      (pss_cons (ps_for PassesOwn.never rfl (pi_range1 rfl T.b_range (pa_cons (pe_callB call_len_seq (by rfl) T.b_len (by decide +kernel) (pa_cons (pv 2) pa_nil)) pa_nil)) (pg_name (i := 5) sc_law.nd rfl (Or.inl rfl)) (pss_one (ps_if (pt_not (pt_val (pe_call G_law_same (hr.mono (by decide)) rfl T.g__law_same T.k__law_same T.bd__law_same .nil pass0 (pa_cons (pe_call G_reached (hr.mono (by decide)) rfl T.g_reached T.k_reached T.bd_reached .nil pass0 (pa_cons (pe_ix ix_tup (pe_fld (pv 4) rfl) (pv 5) (fun _ _ => rfl)) pa_nil)) (pa_cons (pe_call G_law_reached (hr.mono (by decide)) rfl T.g__law_reached T.k__law_reached T.bd__law_reached .nil pass0 (pa_cons (pe_ix ix_tup (pe_ix ix_list (pv 3) (pv 5) (fun _ _ => rfl)) pe_int (fun _ _ => rfl)) (pa_cons (pe_ix ix_tup (pe_ix ix_list (pv 3) (pv 5) (fun _ _ => rfl)) pe_int (fun _ _ => rfl)) pa_nil))) pa_nil))))) (pss_one (ps_ret pe_bl)) pss_nil)))
      (pss_one (ps_ret pe_bl)))))))), ?_⟩
    refine ⟨_, rfl, sa, ns, 0, rfl, hS, hl, fun st0 ca H1 t b n1 n2 hca hst ss1 => ⟨(by show 1 ≤ sizeLine; decide), fun l2 nl2 => ?_⟩⟩
    refine ⟨st0, l2, _, _, rfl, rfl, sN (Same.refl _) nl2 _ _ hst, upd_same, (by show 6 + 1 ≤ sizeLine; decide), fun st nst => ?_⟩
    have hcs : ca ≠ st := ne_of_none (sN (Same.refl _) nl2 _ _ hca) nst
    have S1 : StD (upd (upd H1 l2 (.lst [.int 2])) st (.lst ([.ref ca, .int 0, .int 0, .int 0, .int t, .int b] ++ [.int 2]))) st ca ns := ⟨⟨_, _, _, _, _, _, Int.le_refl 0, upd_same⟩, by rw [upd_ne hcs]; exact sN (Same.refl _) nl2 _ _ hca⟩
    generalize upd (upd H1 l2 (.lst [.int 2])) st (.lst ([.ref ca, .int 0, .int 0, .int 0, .int t, .int b] ++ [.int 2])) = H2 at S1 ⊢
    clear hst ss1 nl2 nst hca n1 n2
    refine ⟨_, rfl, st, ca, ns, 30, rfl, S1, by decide, by decide, fun v H3 v0 v1 S3 _ => ⟨_, _, rfl, rfl, ?_⟩⟩
    obtain ⟨i3, d3, n3, t3, b3, c3, i30, h3⟩ := S3.at'
    refine ⟨_, rfl, _, _, _, _, rfl, rfl, h3, rfl, ?_⟩
    have S4 : StD (upd H3 st (.lst [.ref ca, .int i3, .int d3, .int n3, .int t3, .int (3 + v), .int c3])) st ca ns := ⟨⟨_, _, _, _, _, _, i30, upd_same⟩, by rw [upd_ne hcs]; exact S3.ca'⟩
    generalize hH4 : upd H3 st _ = H4
    have S4' : StD H4 st ca ns := by rw [← hH4]; exact S4
    clear S4 hH4 S3 h3 S1
    refine ⟨_, rfl, _, rfl, st, ca, ns, 4, rfl, S4', by decide, by decide, fun v5 H5 w0 w1 S5 _ => ⟨_, _, rfl, rfl, ?_⟩⟩
    refine ⟨st, ca, ns, 1 + v5, rfl, S5, by omega, by omega, fun l hs H6 RH ho hlen nls S6 _ => ?_⟩
    refine ⟨_, rfl, _, rfl, st, ca, l, ns, hs, rfl, S6, RH, ho, by omega, nls, fun L cds H7 RC hco hcl nLs S7 f7 => ?_⟩
    refine ⟨_, rfl, _, rfl, l, L, hs, cds, rfl, RH.frs S6 f7 nls, RC, ho, hcl, by omega, fun M mx ut v1 v2 us H8 hM hut hul hun ss8 => ?_⟩
    obtain ⟨us0, hl8, dus0⟩ := (RH.frs S6 f7 nls).same ss8
    obtain ⟨us1, hL8, dus1⟩ := RC.same ss8
    have hul0 := dus0.len
    rw [List.length_map] at hul0
    refine ⟨_, rfl, _, _, rfl, .inl (SqL.of hl8), _, rfl, by omega, by omega, ?_⟩
    refine for_range (lo := 0) (n := ((us0.length : Nat) : Int).toNat) (fun i σ H' => ∃ (o5 : Option V), σ = [some (.ref sa), some (.ref st), some (.ref l), some (.ref L), some (.ref M), o5] ∧ Same H8 H')
      ⟨_, rfl, Same.refl _⟩ ?_ ?_
    · rintro i σ H9 hi ⟨o5, rfl, ss9⟩
      have e0 : (0 : Int) + (i : Int) = (i : Int) := Int.zero_add _
      rw [e0]
      have hic : i < cds.length := by omega
      obtain ⟨w1, E1, D1⟩ := dus1.it i (d := codeD cds[i]) (by simp [hic])
      obtain ⟨p, hp, hU⟩ := hun i cds[i] (List.getElem?_eq_getElem hic)
      have hpa : atI us (i : Int) = some (V.ref p) := atI_nat hp
      have hok := hco cds[i] (List.getElem_mem hic)
      refine ⟨_, rfl, M, a.C_Module, mx, _, _, rfl, ss9 _ _ hM, T.cl_Module, T.n_Module_units, mo_un _ _ _, _, rfl, _, _, _, _, rfl, rfl, seqT ss9 hut, hpa, ?_⟩
      refine ⟨p, cds[i], rfl, hU.same ss9, hok, hok.n0, fun u HB f hf du sB => ?_⟩
      have ssB := sTr ss9 sB
      obtain ⟨pw, zs, rfl, hzs, dzs⟩ := (D1.keep (KT.same ssB)).ts
      obtain ⟨z0, zt, rfl, y0, dt⟩ := dzs.un
      obtain ⟨z1, zt, rfl, y1, dt⟩ := dt.un
      obtain rfl := dt.em
      refine ⟨_, rfl, _, rfl, _, _, _, _, rfl, rfl, SqL.of (ssB _ _ hL8), E1, _, _, _, _, rfl, rfl, hzs, atI_nat (j := 0) rfl, _, rfl, _, rfl, _, _, _, _, rfl, rfl, SqL.of (ssB _ _ hL8), E1, _, _, _, _, rfl, rfl, hzs, atI_nat (j := 1) rfl, ?_⟩
      refine ⟨_, _, cds[i].1, cds[i].2, rfl, y0, y1, hok, hok.n0, fun u2 HC g hg du2 sC => ?_⟩
      rw [← rch_eq hf hg] at du2
      refine ⟨_, _, _, rfl, du.keep (KT.same sC), du2, rch_ok _ _ hok.l1, fun HD sD => ⟨_, rfl, iteF ?_⟩⟩
      exact ⟨_, rfl, sTr (sTr ssB sC) sD⟩
    · rintro σ H9 ⟨o5, rfl, ss9⟩
      exact q _
end

theorem all_mk {l : PySem.W.OpenLaw} {w : World} {K : PySem.W.Frag} {h : Heap} {mg : Str → Option Value} {fa : Addr} (X : K.In h) (G : h.Ns mainGlobals mg) (hfa : mg "law" = some (.ref fa))
    {C_Unit : Addr} (aC_Unit : PySem.W.nsIn K mainGlobals "Unit" = some (some (.ref C_Unit)))
    (pg_Unit : PySem.W.plainGet K C_Unit Str.empty = true) (hd_Unit : PySem.W.hasDictIn K C_Unit = true) (po_Unit : PySem.W.plainOver K C_Unit = true) (sa_Unit : PySem.W.findIn K (.ref C_Unit) "__setattr__" = some (some (.builtin "object.__setattr__"))) (mk_Unit : PySem.W.makesIn K C_Unit = true) (kC_Unit : PySem.W.keepIn K (.ref C_Unit) = true)
    (n_Unit_parent : PySem.W.findIn K (.ref C_Unit) "parent" = some none)
    (n_Unit_arguments : PySem.W.findIn K (.ref C_Unit) "arguments" = some none)
    (n_Unit_results : PySem.W.findIn K (.ref C_Unit) "results" = some none)
    (n_Unit_registers : PySem.W.findIn K (.ref C_Unit) "registers" = some none)
    (n_Unit_cells : PySem.W.findIn K (.ref C_Unit) "cells" = some none)
    (n_Unit_code : PySem.W.findIn K (.ref C_Unit) "code" = some none)
    (n_Unit_regions : PySem.W.findIn K (.ref C_Unit) "regions" = some none)
    {C_Module : Addr} (aC_Module : PySem.W.nsIn K mainGlobals "Module" = some (some (.ref C_Module)))
    (pg_Module : PySem.W.plainGet K C_Module Str.empty = true) (hd_Module : PySem.W.hasDictIn K C_Module = true) (po_Module : PySem.W.plainOver K C_Module = true) (sa_Module : PySem.W.findIn K (.ref C_Module) "__setattr__" = some (some (.builtin "object.__setattr__"))) (mk_Module : PySem.W.makesIn K C_Module = true) (kC_Module : PySem.W.keepIn K (.ref C_Module) = true)
    (n_Module_units : PySem.W.findIn K (.ref C_Module) "units" = some none)
    (n_Module_names : PySem.W.findIn K (.ref C_Module) "names" = some none)
    (n_Module_places : PySem.W.findIn K (.ref C_Module) "places" = some none)
    {f_Unit___init__ : Addr} {oc_Unit___init__ : Value} {od_Unit___init__ an_Unit___init__ : Option Addr} {sl_Unit___init__ : Array (Option Value)} {kV_Unit___init__ dc_Unit___init__ pm_Unit___init__ cd_Unit___init__ ct_Unit___init__ : Value}
    (a_Unit___init__ : PySem.W.findIn K (.ref C_Unit) "__init__" = some (some (.ref f_Unit___init__)))
    (i_Unit___init__ : PySem.W.isFn K (.ref f_Unit___init__) = true)
    (l_Unit___init__ : K.lookup f_Unit___init__ = some ⟨oc_Unit___init__, od_Unit___init__, .func (PySem.W.fnOf "__init__" "Unit.__init__" (defArgs s_Unit___init__) (defBody s_Unit___init__) (defScope s_Unit___init__) .none kV_Unit___init__ dc_Unit___init__ pm_Unit___init__ an_Unit___init__ cd_Unit___init__ ct_Unit___init__), sl_Unit___init__⟩)
    (c_Unit___init__ : PySem.W.codeIn K cd_Unit___init__ "Unit.__init__" = true)
    (k_Unit___init__ : PySem.W.keepIn K (.ref f_Unit___init__) = true)
    {f_Module___init__ : Addr} {oc_Module___init__ : Value} {od_Module___init__ an_Module___init__ : Option Addr} {sl_Module___init__ : Array (Option Value)} {kV_Module___init__ dc_Module___init__ pm_Module___init__ cd_Module___init__ ct_Module___init__ : Value}
    (a_Module___init__ : PySem.W.findIn K (.ref C_Module) "__init__" = some (some (.ref f_Module___init__)))
    (i_Module___init__ : PySem.W.isFn K (.ref f_Module___init__) = true)
    (l_Module___init__ : K.lookup f_Module___init__ = some ⟨oc_Module___init__, od_Module___init__, .func (PySem.W.fnOf "__init__" "Module.__init__" (defArgs s_Module___init__) (defBody s_Module___init__) (defScope s_Module___init__) .none kV_Module___init__ dc_Module___init__ pm_Module___init__ an_Module___init__ cd_Module___init__ ct_Module___init__), sl_Module___init__⟩)
    (c_Module___init__ : PySem.W.codeIn K cd_Module___init__ "Module.__init__" = true)
    (k_Module___init__ : PySem.W.keepIn K (.ref f_Module___init__) = true)
    {f_can_raise : Addr} {oc_can_raise : Value} {od_can_raise an_can_raise : Option Addr} {sl_can_raise : Array (Option Value)} {kV_can_raise dc_can_raise pm_can_raise cd_can_raise ct_can_raise : Value}
    (a_can_raise : PySem.W.nsIn K mainGlobals "can_raise" = some (some (.ref f_can_raise)))
    (l_can_raise : K.lookup f_can_raise = some ⟨oc_can_raise, od_can_raise, .func (PySem.W.fnOf "can_raise" "can_raise" (defArgs s_can_raise) (defBody s_can_raise) (defScope s_can_raise) .none kV_can_raise dc_can_raise pm_can_raise an_can_raise cd_can_raise ct_can_raise), sl_can_raise⟩)
    (c_can_raise : PySem.W.codeIn K cd_can_raise "can_raise" = true)
    (k_can_raise : PySem.W.keepIn K (.ref f_can_raise) = true)
    {f_followers : Addr} {oc_followers : Value} {od_followers an_followers : Option Addr} {sl_followers : Array (Option Value)} {kV_followers dc_followers pm_followers cd_followers ct_followers : Value}
    (a_followers : PySem.W.nsIn K mainGlobals "followers" = some (some (.ref f_followers)))
    (l_followers : K.lookup f_followers = some ⟨oc_followers, od_followers, .func (PySem.W.fnOf "followers" "followers" (defArgs s_followers) (defBody s_followers) (defScope s_followers) .none kV_followers dc_followers pm_followers an_followers cd_followers ct_followers), sl_followers⟩)
    (c_followers : PySem.W.codeIn K cd_followers "followers" = true)
    (k_followers : PySem.W.keepIn K (.ref f_followers) = true)
    {f_edges : Addr} {oc_edges : Value} {od_edges an_edges : Option Addr} {sl_edges : Array (Option Value)} {kV_edges dc_edges pm_edges cd_edges ct_edges : Value}
    (a_edges : PySem.W.nsIn K mainGlobals "edges" = some (some (.ref f_edges)))
    (l_edges : K.lookup f_edges = some ⟨oc_edges, od_edges, .func (PySem.W.fnOf "edges" "edges" (defArgs s_edges) (defBody s_edges) (defScope s_edges) .none kV_edges dc_edges pm_edges an_edges cd_edges ct_edges), sl_edges⟩)
    (c_edges : PySem.W.codeIn K cd_edges "edges" = true)
    (k_edges : PySem.W.keepIn K (.ref f_edges) = true)
    {f_reached : Addr} {oc_reached : Value} {od_reached an_reached : Option Addr} {sl_reached : Array (Option Value)} {kV_reached dc_reached pm_reached cd_reached ct_reached : Value}
    (a_reached : PySem.W.nsIn K mainGlobals "reached" = some (some (.ref f_reached)))
    (l_reached : K.lookup f_reached = some ⟨oc_reached, od_reached, .func (PySem.W.fnOf "reached" "reached" (defArgs s_reached) (defBody s_reached) (defScope s_reached) .none kV_reached dc_reached pm_reached an_reached cd_reached ct_reached), sl_reached⟩)
    (c_reached : PySem.W.codeIn K cd_reached "reached" = true)
    (k_reached : PySem.W.keepIn K (.ref f_reached) = true)
    {f_taken_regions : Addr} {oc_taken_regions : Value} {od_taken_regions an_taken_regions : Option Addr} {sl_taken_regions : Array (Option Value)} {kV_taken_regions dc_taken_regions pm_taken_regions cd_taken_regions ct_taken_regions : Value}
    (a_taken_regions : PySem.W.nsIn K mainGlobals "taken_regions" = some (some (.ref f_taken_regions)))
    (l_taken_regions : K.lookup f_taken_regions = some ⟨oc_taken_regions, od_taken_regions, .func (PySem.W.fnOf "taken_regions" "taken_regions" (defArgs s_taken_regions) (defBody s_taken_regions) (defScope s_taken_regions) .none kV_taken_regions dc_taken_regions pm_taken_regions an_taken_regions cd_taken_regions ct_taken_regions), sl_taken_regions⟩)
    (c_taken_regions : PySem.W.codeIn K cd_taken_regions "taken_regions" = true)
    (k_taken_regions : PySem.W.keepIn K (.ref f_taken_regions) = true)
    {f_first_free : Addr} {oc_first_free : Value} {od_first_free an_first_free : Option Addr} {sl_first_free : Array (Option Value)} {kV_first_free dc_first_free pm_first_free cd_first_free ct_first_free : Value}
    (a_first_free : PySem.W.nsIn K mainGlobals "_first_free" = some (some (.ref f_first_free)))
    (l_first_free : K.lookup f_first_free = some ⟨oc_first_free, od_first_free, .func (PySem.W.fnOf "_first_free" "_first_free" (defArgs s_first_free) (defBody s_first_free) (defScope s_first_free) .none kV_first_free dc_first_free pm_first_free an_first_free cd_first_free ct_first_free), sl_first_free⟩)
    (c_first_free : PySem.W.codeIn K cd_first_free "_first_free" = true)
    (k_first_free : PySem.W.keepIn K (.ref f_first_free) = true)
    {f_law_mixed : Addr} {oc_law_mixed : Value} {od_law_mixed an_law_mixed : Option Addr} {sl_law_mixed : Array (Option Value)} {kV_law_mixed dc_law_mixed pm_law_mixed cd_law_mixed ct_law_mixed : Value}
    (a_law_mixed : PySem.W.nsIn K mainGlobals "_law_mixed" = some (some (.ref f_law_mixed)))
    (l_law_mixed : K.lookup f_law_mixed = some ⟨oc_law_mixed, od_law_mixed, .func (PySem.W.fnOf "_law_mixed" "_law_mixed" (defArgs s_law_mixed) (defBody s_law_mixed) (defScope s_law_mixed) .none kV_law_mixed dc_law_mixed pm_law_mixed an_law_mixed cd_law_mixed ct_law_mixed), sl_law_mixed⟩)
    (c_law_mixed : PySem.W.codeIn K cd_law_mixed "_law_mixed" = true)
    (k_law_mixed : PySem.W.keepIn K (.ref f_law_mixed) = true)
    {f_law_state : Addr} {oc_law_state : Value} {od_law_state an_law_state : Option Addr} {sl_law_state : Array (Option Value)} {kV_law_state dc_law_state pm_law_state cd_law_state ct_law_state : Value}
    (a_law_state : PySem.W.nsIn K mainGlobals "_law_state" = some (some (.ref f_law_state)))
    (l_law_state : K.lookup f_law_state = some ⟨oc_law_state, od_law_state, .func (PySem.W.fnOf "_law_state" "_law_state" (defArgs s_law_state) (defBody s_law_state) (defScope s_law_state) .none kV_law_state dc_law_state pm_law_state an_law_state cd_law_state ct_law_state), sl_law_state⟩)
    (c_law_state : PySem.W.codeIn K cd_law_state "_law_state" = true)
    (k_law_state : PySem.W.keepIn K (.ref f_law_state) = true)
    {f_law_draw : Addr} {oc_law_draw : Value} {od_law_draw an_law_draw : Option Addr} {sl_law_draw : Array (Option Value)} {kV_law_draw dc_law_draw pm_law_draw cd_law_draw ct_law_draw : Value}
    (a_law_draw : PySem.W.nsIn K mainGlobals "_law_draw" = some (some (.ref f_law_draw)))
    (l_law_draw : K.lookup f_law_draw = some ⟨oc_law_draw, od_law_draw, .func (PySem.W.fnOf "_law_draw" "_law_draw" (defArgs s_law_draw) (defBody s_law_draw) (defScope s_law_draw) .none kV_law_draw dc_law_draw pm_law_draw an_law_draw cd_law_draw ct_law_draw), sl_law_draw⟩)
    (c_law_draw : PySem.W.codeIn K cd_law_draw "_law_draw" = true)
    (k_law_draw : PySem.W.keepIn K (.ref f_law_draw) = true)
    {f_law_same : Addr} {oc_law_same : Value} {od_law_same an_law_same : Option Addr} {sl_law_same : Array (Option Value)} {kV_law_same dc_law_same pm_law_same cd_law_same ct_law_same : Value}
    (a_law_same : PySem.W.nsIn K mainGlobals "_law_same" = some (some (.ref f_law_same)))
    (l_law_same : K.lookup f_law_same = some ⟨oc_law_same, od_law_same, .func (PySem.W.fnOf "_law_same" "_law_same" (defArgs s_law_same) (defBody s_law_same) (defScope s_law_same) .none kV_law_same dc_law_same pm_law_same an_law_same cd_law_same ct_law_same), sl_law_same⟩)
    (c_law_same : PySem.W.codeIn K cd_law_same "_law_same" = true)
    (k_law_same : PySem.W.keepIn K (.ref f_law_same) = true)
    {f_law_word : Addr} {oc_law_word : Value} {od_law_word an_law_word : Option Addr} {sl_law_word : Array (Option Value)} {kV_law_word dc_law_word pm_law_word cd_law_word ct_law_word : Value}
    (a_law_word : PySem.W.nsIn K mainGlobals "_law_word" = some (some (.ref f_law_word)))
    (l_law_word : K.lookup f_law_word = some ⟨oc_law_word, od_law_word, .func (PySem.W.fnOf "_law_word" "_law_word" (defArgs s_law_word) (defBody s_law_word) (defScope s_law_word) .none kV_law_word dc_law_word pm_law_word an_law_word cd_law_word ct_law_word), sl_law_word⟩)
    (c_law_word : PySem.W.codeIn K cd_law_word "_law_word" = true)
    (k_law_word : PySem.W.keepIn K (.ref f_law_word) = true)
    {f_law_operand : Addr} {oc_law_operand : Value} {od_law_operand an_law_operand : Option Addr} {sl_law_operand : Array (Option Value)} {kV_law_operand dc_law_operand pm_law_operand cd_law_operand ct_law_operand : Value}
    (a_law_operand : PySem.W.nsIn K mainGlobals "_law_operand" = some (some (.ref f_law_operand)))
    (l_law_operand : K.lookup f_law_operand = some ⟨oc_law_operand, od_law_operand, .func (PySem.W.fnOf "_law_operand" "_law_operand" (defArgs s_law_operand) (defBody s_law_operand) (defScope s_law_operand) .none kV_law_operand dc_law_operand pm_law_operand an_law_operand cd_law_operand ct_law_operand), sl_law_operand⟩)
    (c_law_operand : PySem.W.codeIn K cd_law_operand "_law_operand" = true)
    (k_law_operand : PySem.W.keepIn K (.ref f_law_operand) = true)
    {f_law_cells : Addr} {oc_law_cells : Value} {od_law_cells an_law_cells : Option Addr} {sl_law_cells : Array (Option Value)} {kV_law_cells dc_law_cells pm_law_cells cd_law_cells ct_law_cells : Value}
    (a_law_cells : PySem.W.nsIn K mainGlobals "_law_cells" = some (some (.ref f_law_cells)))
    (l_law_cells : K.lookup f_law_cells = some ⟨oc_law_cells, od_law_cells, .func (PySem.W.fnOf "_law_cells" "_law_cells" (defArgs s_law_cells) (defBody s_law_cells) (defScope s_law_cells) .none kV_law_cells dc_law_cells pm_law_cells an_law_cells cd_law_cells ct_law_cells), sl_law_cells⟩)
    (c_law_cells : PySem.W.codeIn K cd_law_cells "_law_cells" = true)
    (k_law_cells : PySem.W.keepIn K (.ref f_law_cells) = true)
    {f_law_straight : Addr} {oc_law_straight : Value} {od_law_straight an_law_straight : Option Addr} {sl_law_straight : Array (Option Value)} {kV_law_straight dc_law_straight pm_law_straight cd_law_straight ct_law_straight : Value}
    (a_law_straight : PySem.W.nsIn K mainGlobals "_law_straight" = some (some (.ref f_law_straight)))
    (l_law_straight : K.lookup f_law_straight = some ⟨oc_law_straight, od_law_straight, .func (PySem.W.fnOf "_law_straight" "_law_straight" (defArgs s_law_straight) (defBody s_law_straight) (defScope s_law_straight) .none kV_law_straight dc_law_straight pm_law_straight an_law_straight cd_law_straight ct_law_straight), sl_law_straight⟩)
    (c_law_straight : PySem.W.codeIn K cd_law_straight "_law_straight" = true)
    (k_law_straight : PySem.W.keepIn K (.ref f_law_straight) = true)
    {f_law_joined : Addr} {oc_law_joined : Value} {od_law_joined an_law_joined : Option Addr} {sl_law_joined : Array (Option Value)} {kV_law_joined dc_law_joined pm_law_joined cd_law_joined ct_law_joined : Value}
    (a_law_joined : PySem.W.nsIn K mainGlobals "_law_joined" = some (some (.ref f_law_joined)))
    (l_law_joined : K.lookup f_law_joined = some ⟨oc_law_joined, od_law_joined, .func (PySem.W.fnOf "_law_joined" "_law_joined" (defArgs s_law_joined) (defBody s_law_joined) (defScope s_law_joined) .none kV_law_joined dc_law_joined pm_law_joined an_law_joined cd_law_joined ct_law_joined), sl_law_joined⟩)
    (c_law_joined : PySem.W.codeIn K cd_law_joined "_law_joined" = true)
    (k_law_joined : PySem.W.keepIn K (.ref f_law_joined) = true)
    {f_law_handler : Addr} {oc_law_handler : Value} {od_law_handler an_law_handler : Option Addr} {sl_law_handler : Array (Option Value)} {kV_law_handler dc_law_handler pm_law_handler cd_law_handler ct_law_handler : Value}
    (a_law_handler : PySem.W.nsIn K mainGlobals "_law_handler" = some (some (.ref f_law_handler)))
    (l_law_handler : K.lookup f_law_handler = some ⟨oc_law_handler, od_law_handler, .func (PySem.W.fnOf "_law_handler" "_law_handler" (defArgs s_law_handler) (defBody s_law_handler) (defScope s_law_handler) .none kV_law_handler dc_law_handler pm_law_handler an_law_handler cd_law_handler ct_law_handler), sl_law_handler⟩)
    (c_law_handler : PySem.W.codeIn K cd_law_handler "_law_handler" = true)
    (k_law_handler : PySem.W.keepIn K (.ref f_law_handler) = true)
    {f_law_part : Addr} {oc_law_part : Value} {od_law_part an_law_part : Option Addr} {sl_law_part : Array (Option Value)} {kV_law_part dc_law_part pm_law_part cd_law_part ct_law_part : Value}
    (a_law_part : PySem.W.nsIn K mainGlobals "_law_part" = some (some (.ref f_law_part)))
    (l_law_part : K.lookup f_law_part = some ⟨oc_law_part, od_law_part, .func (PySem.W.fnOf "_law_part" "_law_part" (defArgs s_law_part) (defBody s_law_part) (defScope s_law_part) .none kV_law_part dc_law_part pm_law_part an_law_part cd_law_part ct_law_part), sl_law_part⟩)
    (c_law_part : PySem.W.codeIn K cd_law_part "_law_part" = true)
    (k_law_part : PySem.W.keepIn K (.ref f_law_part) = true)
    {f_law_piece : Addr} {oc_law_piece : Value} {od_law_piece an_law_piece : Option Addr} {sl_law_piece : Array (Option Value)} {kV_law_piece dc_law_piece pm_law_piece cd_law_piece ct_law_piece : Value}
    (a_law_piece : PySem.W.nsIn K mainGlobals "_law_piece" = some (some (.ref f_law_piece)))
    (l_law_piece : K.lookup f_law_piece = some ⟨oc_law_piece, od_law_piece, .func (PySem.W.fnOf "_law_piece" "_law_piece" (defArgs s_law_piece) (defBody s_law_piece) (defScope s_law_piece) .none kV_law_piece dc_law_piece pm_law_piece an_law_piece cd_law_piece ct_law_piece), sl_law_piece⟩)
    (c_law_piece : PySem.W.codeIn K cd_law_piece "_law_piece" = true)
    (k_law_piece : PySem.W.keepIn K (.ref f_law_piece) = true)
    {f_law_code : Addr} {oc_law_code : Value} {od_law_code an_law_code : Option Addr} {sl_law_code : Array (Option Value)} {kV_law_code dc_law_code pm_law_code cd_law_code ct_law_code : Value}
    (a_law_code : PySem.W.nsIn K mainGlobals "_law_code" = some (some (.ref f_law_code)))
    (l_law_code : K.lookup f_law_code = some ⟨oc_law_code, od_law_code, .func (PySem.W.fnOf "_law_code" "_law_code" (defArgs s_law_code) (defBody s_law_code) (defScope s_law_code) .none kV_law_code dc_law_code pm_law_code an_law_code cd_law_code ct_law_code), sl_law_code⟩)
    (c_law_code : PySem.W.codeIn K cd_law_code "_law_code" = true)
    (k_law_code : PySem.W.keepIn K (.ref f_law_code) = true)
    {f_law_free : Addr} {oc_law_free : Value} {od_law_free an_law_free : Option Addr} {sl_law_free : Array (Option Value)} {kV_law_free dc_law_free pm_law_free cd_law_free ct_law_free : Value}
    (a_law_free : PySem.W.nsIn K mainGlobals "_law_free" = some (some (.ref f_law_free)))
    (l_law_free : K.lookup f_law_free = some ⟨oc_law_free, od_law_free, .func (PySem.W.fnOf "_law_free" "_law_free" (defArgs s_law_free) (defBody s_law_free) (defScope s_law_free) .none kV_law_free dc_law_free pm_law_free an_law_free cd_law_free ct_law_free), sl_law_free⟩)
    (c_law_free : PySem.W.codeIn K cd_law_free "_law_free" = true)
    (k_law_free : PySem.W.keepIn K (.ref f_law_free) = true)
    {f_law_any_code : Addr} {oc_law_any_code : Value} {od_law_any_code an_law_any_code : Option Addr} {sl_law_any_code : Array (Option Value)} {kV_law_any_code dc_law_any_code pm_law_any_code cd_law_any_code ct_law_any_code : Value}
    (a_law_any_code : PySem.W.nsIn K mainGlobals "_law_any_code" = some (some (.ref f_law_any_code)))
    (l_law_any_code : K.lookup f_law_any_code = some ⟨oc_law_any_code, od_law_any_code, .func (PySem.W.fnOf "_law_any_code" "_law_any_code" (defArgs s_law_any_code) (defBody s_law_any_code) (defScope s_law_any_code) .none kV_law_any_code dc_law_any_code pm_law_any_code an_law_any_code cd_law_any_code ct_law_any_code), sl_law_any_code⟩)
    (c_law_any_code : PySem.W.codeIn K cd_law_any_code "_law_any_code" = true)
    (k_law_any_code : PySem.W.keepIn K (.ref f_law_any_code) = true)
    {f_law_heads : Addr} {oc_law_heads : Value} {od_law_heads an_law_heads : Option Addr} {sl_law_heads : Array (Option Value)} {kV_law_heads dc_law_heads pm_law_heads cd_law_heads ct_law_heads : Value}
    (a_law_heads : PySem.W.nsIn K mainGlobals "_law_heads" = some (some (.ref f_law_heads)))
    (l_law_heads : K.lookup f_law_heads = some ⟨oc_law_heads, od_law_heads, .func (PySem.W.fnOf "_law_heads" "_law_heads" (defArgs s_law_heads) (defBody s_law_heads) (defScope s_law_heads) .none kV_law_heads dc_law_heads pm_law_heads an_law_heads cd_law_heads ct_law_heads), sl_law_heads⟩)
    (c_law_heads : PySem.W.codeIn K cd_law_heads "_law_heads" = true)
    (k_law_heads : PySem.W.keepIn K (.ref f_law_heads) = true)
    {f_law_around : Addr} {oc_law_around : Value} {od_law_around an_law_around : Option Addr} {sl_law_around : Array (Option Value)} {kV_law_around dc_law_around pm_law_around cd_law_around ct_law_around : Value}
    (a_law_around : PySem.W.nsIn K mainGlobals "_law_around" = some (some (.ref f_law_around)))
    (l_law_around : K.lookup f_law_around = some ⟨oc_law_around, od_law_around, .func (PySem.W.fnOf "_law_around" "_law_around" (defArgs s_law_around) (defBody s_law_around) (defScope s_law_around) .none kV_law_around dc_law_around pm_law_around an_law_around cd_law_around ct_law_around), sl_law_around⟩)
    (c_law_around : PySem.W.codeIn K cd_law_around "_law_around" = true)
    (k_law_around : PySem.W.keepIn K (.ref f_law_around) = true)
    {f_law_codes : Addr} {oc_law_codes : Value} {od_law_codes an_law_codes : Option Addr} {sl_law_codes : Array (Option Value)} {kV_law_codes dc_law_codes pm_law_codes cd_law_codes ct_law_codes : Value}
    (a_law_codes : PySem.W.nsIn K mainGlobals "_law_codes" = some (some (.ref f_law_codes)))
    (l_law_codes : K.lookup f_law_codes = some ⟨oc_law_codes, od_law_codes, .func (PySem.W.fnOf "_law_codes" "_law_codes" (defArgs s_law_codes) (defBody s_law_codes) (defScope s_law_codes) .none kV_law_codes dc_law_codes pm_law_codes an_law_codes cd_law_codes ct_law_codes), sl_law_codes⟩)
    (c_law_codes : PySem.W.codeIn K cd_law_codes "_law_codes" = true)
    (k_law_codes : PySem.W.keepIn K (.ref f_law_codes) = true)
    {f_law_module : Addr} {oc_law_module : Value} {od_law_module an_law_module : Option Addr} {sl_law_module : Array (Option Value)} {kV_law_module dc_law_module pm_law_module cd_law_module ct_law_module : Value}
    (a_law_module : PySem.W.nsIn K mainGlobals "_law_module" = some (some (.ref f_law_module)))
    (l_law_module : K.lookup f_law_module = some ⟨oc_law_module, od_law_module, .func (PySem.W.fnOf "_law_module" "_law_module" (defArgs s_law_module) (defBody s_law_module) (defScope s_law_module) .none kV_law_module dc_law_module pm_law_module an_law_module cd_law_module ct_law_module), sl_law_module⟩)
    (c_law_module : PySem.W.codeIn K cd_law_module "_law_module" = true)
    (k_law_module : PySem.W.keepIn K (.ref f_law_module) = true)
    {f_law_ways : Addr} {oc_law_ways : Value} {od_law_ways an_law_ways : Option Addr} {sl_law_ways : Array (Option Value)} {kV_law_ways dc_law_ways pm_law_ways cd_law_ways ct_law_ways : Value}
    (a_law_ways : PySem.W.nsIn K mainGlobals "_law_ways" = some (some (.ref f_law_ways)))
    (l_law_ways : K.lookup f_law_ways = some ⟨oc_law_ways, od_law_ways, .func (PySem.W.fnOf "_law_ways" "_law_ways" (defArgs s_law_ways) (defBody s_law_ways) (defScope s_law_ways) .none kV_law_ways dc_law_ways pm_law_ways an_law_ways cd_law_ways ct_law_ways), sl_law_ways⟩)
    (c_law_ways : PySem.W.codeIn K cd_law_ways "_law_ways" = true)
    (k_law_ways : PySem.W.keepIn K (.ref f_law_ways) = true)
    {f_law_reached : Addr} {oc_law_reached : Value} {od_law_reached an_law_reached : Option Addr} {sl_law_reached : Array (Option Value)} {kV_law_reached dc_law_reached pm_law_reached cd_law_reached ct_law_reached : Value}
    (a_law_reached : PySem.W.nsIn K mainGlobals "_law_reached" = some (some (.ref f_law_reached)))
    (l_law_reached : K.lookup f_law_reached = some ⟨oc_law_reached, od_law_reached, .func (PySem.W.fnOf "_law_reached" "_law_reached" (defArgs s_law_reached) (defBody s_law_reached) (defScope s_law_reached) .none kV_law_reached dc_law_reached pm_law_reached an_law_reached cd_law_reached ct_law_reached), sl_law_reached⟩)
    (c_law_reached : PySem.W.codeIn K cd_law_reached "_law_reached" = true)
    (k_law_reached : PySem.W.keepIn K (.ref f_law_reached) = true)
    {f_law : Addr} {oc_law : Value} {od_law an_law : Option Addr} {sl_law : Array (Option Value)} {kV_law dc_law pm_law cd_law ct_law : Value}
    (a_law : PySem.W.nsIn K mainGlobals "law" = some (some (.ref f_law)))
    (l_law : K.lookup f_law = some ⟨oc_law, od_law, .func (PySem.W.fnOf "law" "law" (defArgs s_law) (defBody s_law) (defScope s_law) .none kV_law dc_law pm_law an_law cd_law ct_law), sl_law⟩)
    (c_law : PySem.W.codeIn K cd_law "law" = true)
    (k_law : PySem.W.keepIn K (.ref f_law) = true)
    {c_LEAVING : Addr} {o_LEAVING : Obj} (a_LEAVING : PySem.W.nsIn K mainGlobals "LEAVING" = some (some (.ref c_LEAVING))) (l_LEAVING : K.lookup c_LEAVING = some o_LEAVING) (q_LEAVING : IsTupOf o_LEAVING [.str "return", .str "raise", .str "again"])
    {c_RAISING : Addr} {o_RAISING : Obj} (a_RAISING : PySem.W.nsIn K mainGlobals "RAISING" = some (some (.ref c_RAISING))) (l_RAISING : K.lookup c_RAISING = some o_RAISING) (q_RAISING : IsTupOf o_RAISING [.str "neg", .str "abs", .str "add", .str "sub", .str "mul", .str "div", .str "mod", .str "rem", .str "check", .str "call", .str "raise", .str "again", .str "get"])
    (z_abs : PySem.W.nsIn K mainGlobals "abs" = some none)
    (z_all : PySem.W.nsIn K mainGlobals "all" = some none)
    (z_bool : PySem.W.nsIn K mainGlobals "bool" = some none)
    (z_enumerate : PySem.W.nsIn K mainGlobals "enumerate" = some none)
    (z_int : PySem.W.nsIn K mainGlobals "int" = some none)
    (z_isinstance : PySem.W.nsIn K mainGlobals "isinstance" = some none)
    (z_len : PySem.W.nsIn K mainGlobals "len" = some none)
    (z_list : PySem.W.nsIn K mainGlobals "list" = some none)
    (z_max : PySem.W.nsIn K mainGlobals "max" = some none)
    (z_min : PySem.W.nsIn K mainGlobals "min" = some none)
    (z_range : PySem.W.nsIn K mainGlobals "range" = some none)
    (z_set : PySem.W.nsIn K mainGlobals "set" = some none)
    (z_sorted : PySem.W.nsIn K mainGlobals "sorted" = some none)
    (z_str : PySem.W.nsIn K mainGlobals "str" = some none)
    (z_sum : PySem.W.nsIn K mainGlobals "sum" = some none)
    (z_tuple : PySem.W.nsIn K mainGlobals "tuple" = some none)
    (z_zip : PySem.W.nsIn K mainGlobals "zip" = some none) :
    ∃ fd : FuncData, (∀ (s : Shared) (v : Value), BindsTo s fd ⟨[v], []⟩ [("script", v)]) ∧ ∀ base : Heap, K.In base → base.Ns mainGlobals mg → FnOk l.prog w K mg base CX0 40 fa fd ["script"] (spLaw K) := by
  have e := hfa.symm.trans (PySem.W.mg_of X G a_law)
  cases e
  let a : Ad := { f_Unit___init__ := f_Unit___init__, d_Unit___init__ := PySem.W.fnOf "__init__" "Unit.__init__" (defArgs s_Unit___init__) (defBody s_Unit___init__) (defScope s_Unit___init__) .none kV_Unit___init__ dc_Unit___init__ pm_Unit___init__ an_Unit___init__ cd_Unit___init__ ct_Unit___init__, f_Module___init__ := f_Module___init__, d_Module___init__ := PySem.W.fnOf "__init__" "Module.__init__" (defArgs s_Module___init__) (defBody s_Module___init__) (defScope s_Module___init__) .none kV_Module___init__ dc_Module___init__ pm_Module___init__ an_Module___init__ cd_Module___init__ ct_Module___init__, f_can_raise := f_can_raise, d_can_raise := PySem.W.fnOf "can_raise" "can_raise" (defArgs s_can_raise) (defBody s_can_raise) (defScope s_can_raise) .none kV_can_raise dc_can_raise pm_can_raise an_can_raise cd_can_raise ct_can_raise, f_followers := f_followers, d_followers := PySem.W.fnOf "followers" "followers" (defArgs s_followers) (defBody s_followers) (defScope s_followers) .none kV_followers dc_followers pm_followers an_followers cd_followers ct_followers, f_edges := f_edges, d_edges := PySem.W.fnOf "edges" "edges" (defArgs s_edges) (defBody s_edges) (defScope s_edges) .none kV_edges dc_edges pm_edges an_edges cd_edges ct_edges, f_reached := f_reached, d_reached := PySem.W.fnOf "reached" "reached" (defArgs s_reached) (defBody s_reached) (defScope s_reached) .none kV_reached dc_reached pm_reached an_reached cd_reached ct_reached, f_taken_regions := f_taken_regions, d_taken_regions := PySem.W.fnOf "taken_regions" "taken_regions" (defArgs s_taken_regions) (defBody s_taken_regions) (defScope s_taken_regions) .none kV_taken_regions dc_taken_regions pm_taken_regions an_taken_regions cd_taken_regions ct_taken_regions, f_first_free := f_first_free, d_first_free := PySem.W.fnOf "_first_free" "_first_free" (defArgs s_first_free) (defBody s_first_free) (defScope s_first_free) .none kV_first_free dc_first_free pm_first_free an_first_free cd_first_free ct_first_free, f_law_mixed := f_law_mixed, d_law_mixed := PySem.W.fnOf "_law_mixed" "_law_mixed" (defArgs s_law_mixed) (defBody s_law_mixed) (defScope s_law_mixed) .none kV_law_mixed dc_law_mixed pm_law_mixed an_law_mixed cd_law_mixed ct_law_mixed, f_law_state := f_law_state, d_law_state := PySem.W.fnOf "_law_state" "_law_state" (defArgs s_law_state) (defBody s_law_state) (defScope s_law_state) .none kV_law_state dc_law_state pm_law_state an_law_state cd_law_state ct_law_state, f_law_draw := f_law_draw, d_law_draw := PySem.W.fnOf "_law_draw" "_law_draw" (defArgs s_law_draw) (defBody s_law_draw) (defScope s_law_draw) .none kV_law_draw dc_law_draw pm_law_draw an_law_draw cd_law_draw ct_law_draw, f_law_same := f_law_same, d_law_same := PySem.W.fnOf "_law_same" "_law_same" (defArgs s_law_same) (defBody s_law_same) (defScope s_law_same) .none kV_law_same dc_law_same pm_law_same an_law_same cd_law_same ct_law_same, f_law_word := f_law_word, d_law_word := PySem.W.fnOf "_law_word" "_law_word" (defArgs s_law_word) (defBody s_law_word) (defScope s_law_word) .none kV_law_word dc_law_word pm_law_word an_law_word cd_law_word ct_law_word, f_law_operand := f_law_operand, d_law_operand := PySem.W.fnOf "_law_operand" "_law_operand" (defArgs s_law_operand) (defBody s_law_operand) (defScope s_law_operand) .none kV_law_operand dc_law_operand pm_law_operand an_law_operand cd_law_operand ct_law_operand, f_law_cells := f_law_cells, d_law_cells := PySem.W.fnOf "_law_cells" "_law_cells" (defArgs s_law_cells) (defBody s_law_cells) (defScope s_law_cells) .none kV_law_cells dc_law_cells pm_law_cells an_law_cells cd_law_cells ct_law_cells, f_law_straight := f_law_straight, d_law_straight := PySem.W.fnOf "_law_straight" "_law_straight" (defArgs s_law_straight) (defBody s_law_straight) (defScope s_law_straight) .none kV_law_straight dc_law_straight pm_law_straight an_law_straight cd_law_straight ct_law_straight, f_law_joined := f_law_joined, d_law_joined := PySem.W.fnOf "_law_joined" "_law_joined" (defArgs s_law_joined) (defBody s_law_joined) (defScope s_law_joined) .none kV_law_joined dc_law_joined pm_law_joined an_law_joined cd_law_joined ct_law_joined, f_law_handler := f_law_handler, d_law_handler := PySem.W.fnOf "_law_handler" "_law_handler" (defArgs s_law_handler) (defBody s_law_handler) (defScope s_law_handler) .none kV_law_handler dc_law_handler pm_law_handler an_law_handler cd_law_handler ct_law_handler, f_law_part := f_law_part, d_law_part := PySem.W.fnOf "_law_part" "_law_part" (defArgs s_law_part) (defBody s_law_part) (defScope s_law_part) .none kV_law_part dc_law_part pm_law_part an_law_part cd_law_part ct_law_part, f_law_piece := f_law_piece, d_law_piece := PySem.W.fnOf "_law_piece" "_law_piece" (defArgs s_law_piece) (defBody s_law_piece) (defScope s_law_piece) .none kV_law_piece dc_law_piece pm_law_piece an_law_piece cd_law_piece ct_law_piece, f_law_code := f_law_code, d_law_code := PySem.W.fnOf "_law_code" "_law_code" (defArgs s_law_code) (defBody s_law_code) (defScope s_law_code) .none kV_law_code dc_law_code pm_law_code an_law_code cd_law_code ct_law_code, f_law_free := f_law_free, d_law_free := PySem.W.fnOf "_law_free" "_law_free" (defArgs s_law_free) (defBody s_law_free) (defScope s_law_free) .none kV_law_free dc_law_free pm_law_free an_law_free cd_law_free ct_law_free, f_law_any_code := f_law_any_code, d_law_any_code := PySem.W.fnOf "_law_any_code" "_law_any_code" (defArgs s_law_any_code) (defBody s_law_any_code) (defScope s_law_any_code) .none kV_law_any_code dc_law_any_code pm_law_any_code an_law_any_code cd_law_any_code ct_law_any_code, f_law_heads := f_law_heads, d_law_heads := PySem.W.fnOf "_law_heads" "_law_heads" (defArgs s_law_heads) (defBody s_law_heads) (defScope s_law_heads) .none kV_law_heads dc_law_heads pm_law_heads an_law_heads cd_law_heads ct_law_heads, f_law_around := f_law_around, d_law_around := PySem.W.fnOf "_law_around" "_law_around" (defArgs s_law_around) (defBody s_law_around) (defScope s_law_around) .none kV_law_around dc_law_around pm_law_around an_law_around cd_law_around ct_law_around, f_law_codes := f_law_codes, d_law_codes := PySem.W.fnOf "_law_codes" "_law_codes" (defArgs s_law_codes) (defBody s_law_codes) (defScope s_law_codes) .none kV_law_codes dc_law_codes pm_law_codes an_law_codes cd_law_codes ct_law_codes, f_law_module := f_law_module, d_law_module := PySem.W.fnOf "_law_module" "_law_module" (defArgs s_law_module) (defBody s_law_module) (defScope s_law_module) .none kV_law_module dc_law_module pm_law_module an_law_module cd_law_module ct_law_module, f_law_ways := f_law_ways, d_law_ways := PySem.W.fnOf "_law_ways" "_law_ways" (defArgs s_law_ways) (defBody s_law_ways) (defScope s_law_ways) .none kV_law_ways dc_law_ways pm_law_ways an_law_ways cd_law_ways ct_law_ways, f_law_reached := f_law_reached, d_law_reached := PySem.W.fnOf "_law_reached" "_law_reached" (defArgs s_law_reached) (defBody s_law_reached) (defScope s_law_reached) .none kV_law_reached dc_law_reached pm_law_reached an_law_reached cd_law_reached ct_law_reached, f_law := fa, d_law := PySem.W.fnOf "law" "law" (defArgs s_law) (defBody s_law) (defScope s_law) .none kV_law dc_law pm_law an_law cd_law ct_law, c_LEAVING := c_LEAVING, c_RAISING := c_RAISING, C_Unit := C_Unit, C_Module := C_Module }
  have T : Txt K mg a := {
    F_Unit___init__ := fun_mk (st := s_Unit___init__) l_Unit___init__ c_Unit___init__ k_Unit___init__,
    k_Unit___init__ := k_Unit___init__,
    bd_Unit___init__ := (fun_mk (st := s_Unit___init__) l_Unit___init__ c_Unit___init__ k_Unit___init__).binds (ps := ["self", "parent", "arguments", "results", "registers", "cells", "code", "regions"]) fun _ _ _ _ _ _ us hl => match us, hl with | [_, _, _, _, _, _, _, _], _ => rfl,
    F_Module___init__ := fun_mk (st := s_Module___init__) l_Module___init__ c_Module___init__ k_Module___init__,
    k_Module___init__ := k_Module___init__,
    bd_Module___init__ := (fun_mk (st := s_Module___init__) l_Module___init__ c_Module___init__ k_Module___init__).binds (ps := ["self", "units", "names", "places"]) fun _ _ _ _ _ _ us hl => match us, hl with | [_, _, _, _], _ => rfl,
    g_can_raise := PySem.W.mg_of X G a_can_raise,
    F_can_raise := fun_mk (st := s_can_raise) l_can_raise c_can_raise k_can_raise,
    k_can_raise := k_can_raise,
    bd_can_raise := (fun_mk (st := s_can_raise) l_can_raise c_can_raise k_can_raise).binds (ps := ["instruction"]) fun _ _ _ _ _ _ us hl => match us, hl with | [_], _ => rfl,
    g_followers := PySem.W.mg_of X G a_followers,
    F_followers := fun_mk (st := s_followers) l_followers c_followers k_followers,
    k_followers := k_followers,
    bd_followers := (fun_mk (st := s_followers) l_followers c_followers k_followers).binds (ps := ["instruction", "index"]) fun _ _ _ _ _ _ us hl => match us, hl with | [_, _], _ => rfl,
    g_edges := PySem.W.mg_of X G a_edges,
    F_edges := fun_mk (st := s_edges) l_edges c_edges k_edges,
    k_edges := k_edges,
    bd_edges := (fun_mk (st := s_edges) l_edges c_edges k_edges).binds (ps := ["unit"]) fun _ _ _ _ _ _ us hl => match us, hl with | [_], _ => rfl,
    g_reached := PySem.W.mg_of X G a_reached,
    F_reached := fun_mk (st := s_reached) l_reached c_reached k_reached,
    k_reached := k_reached,
    bd_reached := (fun_mk (st := s_reached) l_reached c_reached k_reached).binds (ps := ["unit"]) fun _ _ _ _ _ _ us hl => match us, hl with | [_], _ => rfl,
    g_taken_regions := PySem.W.mg_of X G a_taken_regions,
    F_taken_regions := fun_mk (st := s_taken_regions) l_taken_regions c_taken_regions k_taken_regions,
    k_taken_regions := k_taken_regions,
    bd_taken_regions := (fun_mk (st := s_taken_regions) l_taken_regions c_taken_regions k_taken_regions).binds (ps := ["unit"]) fun _ _ _ _ _ _ us hl => match us, hl with | [_], _ => rfl,
    g__first_free := PySem.W.mg_of X G a_first_free,
    F__first_free := fun_mk (st := s_first_free) l_first_free c_first_free k_first_free,
    k__first_free := k_first_free,
    bd__first_free := (fun_mk (st := s_first_free) l_first_free c_first_free k_first_free).binds (ps := ["onward", "index"]) fun _ _ _ _ _ _ us hl => match us, hl with | [_, _], _ => rfl,
    g__law_mixed := PySem.W.mg_of X G a_law_mixed,
    F__law_mixed := fun_mk (st := s_law_mixed) l_law_mixed c_law_mixed k_law_mixed,
    k__law_mixed := k_law_mixed,
    bd__law_mixed := (fun_mk (st := s_law_mixed) l_law_mixed c_law_mixed k_law_mixed).binds (ps := ["number", "count"]) fun _ _ _ _ _ _ us hl => match us, hl with | [_, _], _ => rfl,
    g__law_state := PySem.W.mg_of X G a_law_state,
    F__law_state := fun_mk (st := s_law_state) l_law_state c_law_state k_law_state,
    k__law_state := k_law_state,
    bd__law_state := (fun_mk (st := s_law_state) l_law_state c_law_state k_law_state).binds (ps := ["script", "budget"]) fun _ _ _ _ _ _ us hl => match us, hl with | [_, _], _ => rfl,
    g__law_draw := PySem.W.mg_of X G a_law_draw,
    F__law_draw := fun_mk (st := s_law_draw) l_law_draw c_law_draw k_law_draw,
    k__law_draw := k_law_draw,
    bd__law_draw := (fun_mk (st := s_law_draw) l_law_draw c_law_draw k_law_draw).binds (ps := ["state", "many"]) fun _ _ _ _ _ _ us hl => match us, hl with | [_, _], _ => rfl,
    g__law_same := PySem.W.mg_of X G a_law_same,
    F__law_same := fun_mk (st := s_law_same) l_law_same c_law_same k_law_same,
    k__law_same := k_law_same,
    bd__law_same := (fun_mk (st := s_law_same) l_law_same c_law_same k_law_same).binds (ps := ["actual", "due"]) fun _ _ _ _ _ _ us hl => match us, hl with | [_, _], _ => rfl,
    g__law_word := PySem.W.mg_of X G a_law_word,
    F__law_word := fun_mk (st := s_law_word) l_law_word c_law_word k_law_word,
    k__law_word := k_law_word,
    bd__law_word := (fun_mk (st := s_law_word) l_law_word c_law_word k_law_word).binds (ps := ["state"]) fun _ _ _ _ _ _ us hl => match us, hl with | [_], _ => rfl,
    g__law_operand := PySem.W.mg_of X G a_law_operand,
    F__law_operand := fun_mk (st := s_law_operand) l_law_operand c_law_operand k_law_operand,
    k__law_operand := k_law_operand,
    bd__law_operand := (fun_mk (st := s_law_operand) l_law_operand c_law_operand k_law_operand).binds (ps := ["state", "room"]) fun _ _ _ _ _ _ us hl => match us, hl with | [_, _], _ => rfl,
    g__law_cells := PySem.W.mg_of X G a_law_cells,
    F__law_cells := fun_mk (st := s_law_cells) l_law_cells c_law_cells k_law_cells,
    k__law_cells := k_law_cells,
    bd__law_cells := (fun_mk (st := s_law_cells) l_law_cells c_law_cells k_law_cells).binds (ps := ["state", "room"]) fun _ _ _ _ _ _ us hl => match us, hl with | [_, _], _ => rfl,
    g__law_straight := PySem.W.mg_of X G a_law_straight,
    F__law_straight := fun_mk (st := s_law_straight) l_law_straight c_law_straight k_law_straight,
    k__law_straight := k_law_straight,
    bd__law_straight := (fun_mk (st := s_law_straight) l_law_straight c_law_straight k_law_straight).binds (ps := ["state", "room"]) fun _ _ _ _ _ _ us hl => match us, hl with | [_, _], _ => rfl,
    g__law_joined := PySem.W.mg_of X G a_law_joined,
    F__law_joined := fun_mk (st := s_law_joined) l_law_joined c_law_joined k_law_joined,
    k__law_joined := k_law_joined,
    bd__law_joined := (fun_mk (st := s_law_joined) l_law_joined c_law_joined k_law_joined).binds (ps := ["first", "second"]) fun _ _ _ _ _ _ us hl => match us, hl with | [_, _], _ => rfl,
    g__law_handler := PySem.W.mg_of X G a_law_handler,
    F__law_handler := fun_mk (st := s_law_handler) l_law_handler c_law_handler k_law_handler,
    k__law_handler := k_law_handler,
    bd__law_handler := (fun_mk (st := s_law_handler) l_law_handler c_law_handler k_law_handler).binds (ps := ["state", "room", "depth", "number", "place"]) fun _ _ _ _ _ _ us hl => match us, hl with | [_, _, _, _, _], _ => rfl,
    g__law_part := PySem.W.mg_of X G a_law_part,
    F__law_part := fun_mk (st := s_law_part) l_law_part c_law_part k_law_part,
    k__law_part := k_law_part,
    bd__law_part := (fun_mk (st := s_law_part) l_law_part c_law_part k_law_part).binds (ps := ["state", "room", "depth"]) fun _ _ _ _ _ _ us hl => match us, hl with | [_, _, _], _ => rfl,
    g__law_piece := PySem.W.mg_of X G a_law_piece,
    F__law_piece := fun_mk (st := s_law_piece) l_law_piece c_law_piece k_law_piece,
    k__law_piece := k_law_piece,
    bd__law_piece := (fun_mk (st := s_law_piece) l_law_piece c_law_piece k_law_piece).binds (ps := ["state", "room", "depth"]) fun _ _ _ _ _ _ us hl => match us, hl with | [_, _, _], _ => rfl,
    g__law_code := PySem.W.mg_of X G a_law_code,
    F__law_code := fun_mk (st := s_law_code) l_law_code c_law_code k_law_code,
    k__law_code := k_law_code,
    bd__law_code := (fun_mk (st := s_law_code) l_law_code c_law_code k_law_code).binds (ps := ["state", "room", "results"]) fun _ _ _ _ _ _ us hl => match us, hl with | [_, _, _], _ => rfl,
    g__law_free := PySem.W.mg_of X G a_law_free,
    F__law_free := fun_mk (st := s_law_free) l_law_free c_law_free k_law_free,
    k__law_free := k_law_free,
    bd__law_free := (fun_mk (st := s_law_free) l_law_free c_law_free k_law_free).binds (ps := ["state", "room", "results"]) fun _ _ _ _ _ _ us hl => match us, hl with | [_, _, _], _ => rfl,
    g__law_any_code := PySem.W.mg_of X G a_law_any_code,
    F__law_any_code := fun_mk (st := s_law_any_code) l_law_any_code c_law_any_code k_law_any_code,
    k__law_any_code := k_law_any_code,
    bd__law_any_code := (fun_mk (st := s_law_any_code) l_law_any_code c_law_any_code k_law_any_code).binds (ps := ["state", "room", "results"]) fun _ _ _ _ _ _ us hl => match us, hl with | [_, _, _], _ => rfl,
    g__law_heads := PySem.W.mg_of X G a_law_heads,
    F__law_heads := fun_mk (st := s_law_heads) l_law_heads c_law_heads k_law_heads,
    k__law_heads := k_law_heads,
    bd__law_heads := (fun_mk (st := s_law_heads) l_law_heads c_law_heads k_law_heads).binds (ps := ["state", "many"]) fun _ _ _ _ _ _ us hl => match us, hl with | [_, _], _ => rfl,
    g__law_around := PySem.W.mg_of X G a_law_around,
    F__law_around := fun_mk (st := s_law_around) l_law_around c_law_around k_law_around,
    k__law_around := k_law_around,
    bd__law_around := (fun_mk (st := s_law_around) l_law_around c_law_around k_law_around).binds (ps := ["heads", "number"]) fun _ _ _ _ _ _ us hl => match us, hl with | [_, _], _ => rfl,
    g__law_codes := PySem.W.mg_of X G a_law_codes,
    F__law_codes := fun_mk (st := s_law_codes) l_law_codes c_law_codes k_law_codes,
    k__law_codes := k_law_codes,
    bd__law_codes := (fun_mk (st := s_law_codes) l_law_codes c_law_codes k_law_codes).binds (ps := ["state", "heads"]) fun _ _ _ _ _ _ us hl => match us, hl with | [_, _], _ => rfl,
    g__law_module := PySem.W.mg_of X G a_law_module,
    F__law_module := fun_mk (st := s_law_module) l_law_module c_law_module k_law_module,
    k__law_module := k_law_module,
    bd__law_module := (fun_mk (st := s_law_module) l_law_module c_law_module k_law_module).binds (ps := ["heads", "codes"]) fun _ _ _ _ _ _ us hl => match us, hl with | [_, _], _ => rfl,
    g__law_ways := PySem.W.mg_of X G a_law_ways,
    F__law_ways := fun_mk (st := s_law_ways) l_law_ways c_law_ways k_law_ways,
    k__law_ways := k_law_ways,
    bd__law_ways := (fun_mk (st := s_law_ways) l_law_ways c_law_ways k_law_ways).binds (ps := ["code", "regions", "index"]) fun _ _ _ _ _ _ us hl => match us, hl with | [_, _, _], _ => rfl,
    g__law_reached := PySem.W.mg_of X G a_law_reached,
    F__law_reached := fun_mk (st := s_law_reached) l_law_reached c_law_reached k_law_reached,
    k__law_reached := k_law_reached,
    bd__law_reached := (fun_mk (st := s_law_reached) l_law_reached c_law_reached k_law_reached).binds (ps := ["code", "regions"]) fun _ _ _ _ _ _ us hl => match us, hl with | [_, _], _ => rfl,
    g_law := PySem.W.mg_of X G a_law,
    F_law := fun_mk (st := s_law) l_law c_law k_law,
    k_law := k_law,
    bd_law := (fun_mk (st := s_law) l_law c_law k_law).binds (ps := ["script"]) fun _ _ _ _ _ _ us hl => match us, hl with | [_], _ => rfl,
    g_LEAVING := PySem.W.mg_of X G a_LEAVING,
    q_LEAVING := fun H => sqT_of l_LEAVING q_LEAVING,
    g_RAISING := PySem.W.mg_of X G a_RAISING,
    q_RAISING := fun H => sqT_of l_RAISING q_RAISING,
    b_abs := PySem.W.mg_none_of X G z_abs,
    b_all := PySem.W.mg_none_of X G z_all,
    b_bool := PySem.W.mg_none_of X G z_bool,
    b_enumerate := PySem.W.mg_none_of X G z_enumerate,
    b_int := PySem.W.mg_none_of X G z_int,
    b_isinstance := PySem.W.mg_none_of X G z_isinstance,
    b_len := PySem.W.mg_none_of X G z_len,
    b_list := PySem.W.mg_none_of X G z_list,
    b_max := PySem.W.mg_none_of X G z_max,
    b_min := PySem.W.mg_none_of X G z_min,
    b_range := PySem.W.mg_none_of X G z_range,
    b_set := PySem.W.mg_none_of X G z_set,
    b_sorted := PySem.W.mg_none_of X G z_sorted,
    b_str := PySem.W.mg_none_of X G z_str,
    b_sum := PySem.W.mg_none_of X G z_sum,
    b_tuple := PySem.W.mg_none_of X G z_tuple,
    b_zip := PySem.W.mg_none_of X G z_zip,
    g_Unit := PySem.W.mg_of X G aC_Unit,
    cl_Unit := ⟨pg_Unit, hd_Unit, po_Unit, sa_Unit⟩,
    mk_Unit := ⟨mk_Unit, a_Unit___init__, i_Unit___init__, kC_Unit⟩,
    n_Unit_parent := n_Unit_parent,
    n_Unit_arguments := n_Unit_arguments,
    n_Unit_results := n_Unit_results,
    n_Unit_registers := n_Unit_registers,
    n_Unit_cells := n_Unit_cells,
    n_Unit_code := n_Unit_code,
    n_Unit_regions := n_Unit_regions,
    g_Module := PySem.W.mg_of X G aC_Module,
    cl_Module := ⟨pg_Module, hd_Module, po_Module, sa_Module⟩,
    mk_Module := ⟨mk_Module, a_Module___init__, i_Module___init__, kC_Module⟩,
    n_Module_units := n_Module_units,
    n_Module_names := n_Module_names,
    n_Module_places := n_Module_places }
  exact ⟨a.d_law, fun s v => .of_eq rfl, fun base _ _ => ok_law T⟩
theorem walk {l : PySem.W.OpenLaw} {q : Program} {loose : List Str} {XP : (Str → Option Value) → Heap → Prop} {YP : World → Heap → Prop} {d : DefRec} {K : Params → PySem.W.Frag} (hn : l.most = some 63) (hdf : d.params.defaults = [])
    (hY : ∀ (w : World) (h : Heap), YP w h → (K w.params).In h)
    (F : ∀ (w : World) (mg : Str → Option Value) (fa : Addr) (h : Heap), (K w.params).In h → h.Ns mainGlobals mg → mg d.name = some (.ref fa) →
      ∃ fd : FuncData, (∀ (s : Shared) (u : Value), BindsTo s fd ⟨[u], []⟩ [("script", u)]) ∧ ∀ base : Heap, (K w.params).In base → base.Ns mainGlobals mg → FnOk l.prog w (K w.params) mg base CX0 40 fa fd ["script"] (spLaw (K w.params))) :
    PySem.W.WalkO q loose XP YP l.row.toRowW d [] (fun f vs => PySem.call f vs) :=
  L2.walk_of (n := 63) (k := 40) (x := "script") (CX := fun _ => CX0) (sp := fun w => spLaw (K w.params)) hn (by decide) hdf ⟨rfl, by decide, by decide⟩ hY F (fun _ _ a ns hl _ hS => ⟨a, ns, rfl, hS, hl, fun _ => rfl⟩) fun _ _ _ _ _ z => z

end My
open PySem PySem.W PyProof.Rows
set_option maxRecDepth 100000 in
set_option maxHeartbeats 0 in
theorem PySem.Challenge.cw_windowada_k41_reached_holds : PySem.Challenge.rw_windowada_k41_reached.Holds := by
  w_on; o_law; k_head; (case hw => w_witness2)
  k_fill
  refine My.walk (l := PySem.Challenge.rw_windowada_k41_reached) rfl rfl (fun w h Y => PySem.W.kIn_of Y) ?F
  case F =>
    intro w mg fa h KX G hmg
    refine' My.all_mk KX G hmg ?aC_Unit ?pg_Unit ?hd_Unit ?po_Unit ?sa_Unit ?mk_Unit ?kC_Unit ?n_Unit_parent ?n_Unit_arguments ?n_Unit_results ?n_Unit_registers ?n_Unit_cells ?n_Unit_code ?n_Unit_regions ?aC_Module ?pg_Module ?hd_Module ?po_Module ?sa_Module ?mk_Module ?kC_Module ?n_Module_units ?n_Module_names ?n_Module_places ?a_Unit___init__ ?i_Unit___init__ ?l_Unit___init__ ?c_Unit___init__ ?k_Unit___init__ ?a_Module___init__ ?i_Module___init__ ?l_Module___init__ ?c_Module___init__ ?k_Module___init__ ?a_can_raise ?l_can_raise ?c_can_raise ?k_can_raise ?a_followers ?l_followers ?c_followers ?k_followers ?a_edges ?l_edges ?c_edges ?k_edges ?a_reached ?l_reached ?c_reached ?k_reached ?a_taken_regions ?l_taken_regions ?c_taken_regions ?k_taken_regions ?a_first_free ?l_first_free ?c_first_free ?k_first_free ?a_law_mixed ?l_law_mixed ?c_law_mixed ?k_law_mixed ?a_law_state ?l_law_state ?c_law_state ?k_law_state ?a_law_draw ?l_law_draw ?c_law_draw ?k_law_draw ?a_law_same ?l_law_same ?c_law_same ?k_law_same ?a_law_word ?l_law_word ?c_law_word ?k_law_word ?a_law_operand ?l_law_operand ?c_law_operand ?k_law_operand ?a_law_cells ?l_law_cells ?c_law_cells ?k_law_cells ?a_law_straight ?l_law_straight ?c_law_straight ?k_law_straight ?a_law_joined ?l_law_joined ?c_law_joined ?k_law_joined ?a_law_handler ?l_law_handler ?c_law_handler ?k_law_handler ?a_law_part ?l_law_part ?c_law_part ?k_law_part ?a_law_piece ?l_law_piece ?c_law_piece ?k_law_piece ?a_law_code ?l_law_code ?c_law_code ?k_law_code ?a_law_free ?l_law_free ?c_law_free ?k_law_free ?a_law_any_code ?l_law_any_code ?c_law_any_code ?k_law_any_code ?a_law_heads ?l_law_heads ?c_law_heads ?k_law_heads ?a_law_around ?l_law_around ?c_law_around ?k_law_around ?a_law_codes ?l_law_codes ?c_law_codes ?k_law_codes ?a_law_module ?l_law_module ?c_law_module ?k_law_module ?a_law_ways ?l_law_ways ?c_law_ways ?k_law_ways ?a_law_reached ?l_law_reached ?c_law_reached ?k_law_reached ?a_law ?l_law ?c_law ?k_law ?a_LEAVING ?l_LEAVING ?q_LEAVING ?a_RAISING ?l_RAISING ?q_RAISING ?z_abs ?z_all ?z_bool ?z_enumerate ?z_int ?z_isinstance ?z_len ?z_list ?z_max ?z_min ?z_range ?z_set ?z_sorted ?z_str ?z_sum ?z_tuple ?z_zip
    (case aC_Unit => k_is)
    (case pg_Unit => k_is)
    (case hd_Unit => k_is)
    (case po_Unit => k_is)
    (case sa_Unit => k_is)
    (case mk_Unit => k_is)
    (case kC_Unit => k_is)
    (case n_Unit_parent => k_is)
    (case n_Unit_arguments => k_is)
    (case n_Unit_results => k_is)
    (case n_Unit_registers => k_is)
    (case n_Unit_cells => k_is)
    (case n_Unit_code => k_is)
    (case n_Unit_regions => k_is)
    (case aC_Module => k_is)
    (case pg_Module => k_is)
    (case hd_Module => k_is)
    (case po_Module => k_is)
    (case sa_Module => k_is)
    (case mk_Module => k_is)
    (case kC_Module => k_is)
    (case n_Module_units => k_is)
    (case n_Module_names => k_is)
    (case n_Module_places => k_is)
    (case a_Unit___init__ => k_is)
    (case i_Unit___init__ => first | rfl | k_is)
    (case l_Unit___init__ => k_is)
    (case c_Unit___init__ => k_is)
    (case k_Unit___init__ => k_is)
    (case a_Module___init__ => k_is)
    (case i_Module___init__ => first | rfl | k_is)
    (case l_Module___init__ => k_is)
    (case c_Module___init__ => k_is)
    (case k_Module___init__ => k_is)
    (case a_can_raise => k_is)
    (case l_can_raise => k_is)
    (case c_can_raise => k_is)
    (case k_can_raise => k_is)
    (case a_followers => k_is)
    (case l_followers => k_is)
    (case c_followers => k_is)
    (case k_followers => k_is)
    (case a_edges => k_is)
    (case l_edges => k_is)
    (case c_edges => k_is)
    (case k_edges => k_is)
    (case a_reached => k_is)
    (case l_reached => k_is)
    (case c_reached => k_is)
    (case k_reached => k_is)
    (case a_taken_regions => k_is)
    (case l_taken_regions => k_is)
    (case c_taken_regions => k_is)
    (case k_taken_regions => k_is)
    (case a_first_free => k_is)
    (case l_first_free => k_is)
    (case c_first_free => k_is)
    (case k_first_free => k_is)
    (case a_law_mixed => k_is)
    (case l_law_mixed => k_is)
    (case c_law_mixed => k_is)
    (case k_law_mixed => k_is)
    (case a_law_state => k_is)
    (case l_law_state => k_is)
    (case c_law_state => k_is)
    (case k_law_state => k_is)
    (case a_law_draw => k_is)
    (case l_law_draw => k_is)
    (case c_law_draw => k_is)
    (case k_law_draw => k_is)
    (case a_law_same => k_is)
    (case l_law_same => k_is)
    (case c_law_same => k_is)
    (case k_law_same => k_is)
    (case a_law_word => k_is)
    (case l_law_word => k_is)
    (case c_law_word => k_is)
    (case k_law_word => k_is)
    (case a_law_operand => k_is)
    (case l_law_operand => k_is)
    (case c_law_operand => k_is)
    (case k_law_operand => k_is)
    (case a_law_cells => k_is)
    (case l_law_cells => k_is)
    (case c_law_cells => k_is)
    (case k_law_cells => k_is)
    (case a_law_straight => k_is)
    (case l_law_straight => k_is)
    (case c_law_straight => k_is)
    (case k_law_straight => k_is)
    (case a_law_joined => k_is)
    (case l_law_joined => k_is)
    (case c_law_joined => k_is)
    (case k_law_joined => k_is)
    (case a_law_handler => k_is)
    (case l_law_handler => k_is)
    (case c_law_handler => k_is)
    (case k_law_handler => k_is)
    (case a_law_part => k_is)
    (case l_law_part => k_is)
    (case c_law_part => k_is)
    (case k_law_part => k_is)
    (case a_law_piece => k_is)
    (case l_law_piece => k_is)
    (case c_law_piece => k_is)
    (case k_law_piece => k_is)
    (case a_law_code => k_is)
    (case l_law_code => k_is)
    (case c_law_code => k_is)
    (case k_law_code => k_is)
    (case a_law_free => k_is)
    (case l_law_free => k_is)
    (case c_law_free => k_is)
    (case k_law_free => k_is)
    (case a_law_any_code => k_is)
    (case l_law_any_code => k_is)
    (case c_law_any_code => k_is)
    (case k_law_any_code => k_is)
    (case a_law_heads => k_is)
    (case l_law_heads => k_is)
    (case c_law_heads => k_is)
    (case k_law_heads => k_is)
    (case a_law_around => k_is)
    (case l_law_around => k_is)
    (case c_law_around => k_is)
    (case k_law_around => k_is)
    (case a_law_codes => k_is)
    (case l_law_codes => k_is)
    (case c_law_codes => k_is)
    (case k_law_codes => k_is)
    (case a_law_module => k_is)
    (case l_law_module => k_is)
    (case c_law_module => k_is)
    (case k_law_module => k_is)
    (case a_law_ways => k_is)
    (case l_law_ways => k_is)
    (case c_law_ways => k_is)
    (case k_law_ways => k_is)
    (case a_law_reached => k_is)
    (case l_law_reached => k_is)
    (case c_law_reached => k_is)
    (case k_law_reached => k_is)
    (case a_law => k_is)
    (case l_law => k_is)
    (case c_law => k_is)
    (case k_law => k_is)
    (case a_LEAVING => k_is)
    (case l_LEAVING => k_is)
    (case q_LEAVING => refine ⟨rfl, _, _, rfl, by decide, ?_⟩; repeat (first | exact .nil | refine .cons ⟨_, rfl⟩ ?_))
    (case a_RAISING => k_is)
    (case l_RAISING => k_is)
    (case q_RAISING => refine ⟨rfl, _, _, rfl, by decide, ?_⟩; repeat (first | exact .nil | refine .cons ⟨_, rfl⟩ ?_))
    (case z_abs => k_is)
    (case z_all => k_is)
    (case z_bool => k_is)
    (case z_enumerate => k_is)
    (case z_int => k_is)
    (case z_isinstance => k_is)
    (case z_len => k_is)
    (case z_list => k_is)
    (case z_max => k_is)
    (case z_min => k_is)
    (case z_range => k_is)
    (case z_set => k_is)
    (case z_sorted => k_is)
    (case z_str => k_is)
    (case z_sum => k_is)
    (case z_tuple => k_is)
    (case z_zip => k_is)

