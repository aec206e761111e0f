import PyProof.Rows.All
import Wide.All
import OpenK.AllK
import Wide.FinOn
import HandS.ForMost
import HandS.ForExc
import HandS.Wide
import HandS.IsInst
import HandS.ExcIs
import HandS.WordsExc
import HandS.Property
import HandS.More
import HandS.Codes
import HandS.TupMul
import HandS.Strs
import HandS.SetFor
import HandS.TryOnly
import HandS.Star
import KE.GoesZip
import KE.GoesEnum
import KE.KItemsList
import HandS.Conv
import HandS.WideBits
import HandS.Walk
import HandS.DictComp
import HandS.Deep
import HandS.Zip
import HandS.Style
import PySem.Challenge.RW_windowada_k54_first_free_places
set_option Elab.async false
set_option maxRecDepth 100000
set_option maxHeartbeats 4000000
set_option linter.all false
namespace My
open PySem L2
/-! ### helpers -/
def IsTupOf (o : Obj) (xs : List V) : Prop := o.cls = .type "tuple" ∧ ∃ (its : Array Value) (n : Nat), o.data = .seq its n ∧ its.size ≤ sizeLine ∧ Vals xs its.toList
theorem sqT_of {K : PySem.W.Frag} {H : Hp} {a : Addr} {o : Obj} {xs : List V} (h : K.lookup a = some o) (q : IsTupOf o xs) : SqT K H a xs := by
  obtain ⟨c, its, n, d, z, r⟩ := q
  exact .inr ⟨o, its, n, h, c, d, z, r⟩
theorem upd_self {H : Hp} {a : Addr} {o : HO} (h : H a = some o) : upd H a o = H := by
  funext b
  unfold upd
  split
  · rename_i e; rw [e, h]
  · rfl
theorem exm_of {K : PySem.W.Frag} {S C : Addr} (h1 : PySem.W.subIn K (.ref C) (.type "BaseException") = some true) (h2 : PySem.W.isClsIn K C = true) (h3 : PySem.W.typeIn K (.ref C) = some (.type "type")) {b : Bool} (h4 : PySem.W.subIn K (.ref S) (.ref C) = some b) :
    PySem.W.exmOne K (.ref S) (.ref C) = some b := by
  have e1 : (PySem.W.subIn K (.ref C) (.type "BaseException") == some true) = true := by rw [h1] <;> rfl
  have e2 : ((PySem.W.clsIn K C).isSome && PySem.W.typeIn K (.ref C) == some (.type "type")) = true := by
    have h2' : (PySem.W.clsIn K C).isSome = true := h2
    rw [h2', h3] <;> rfl
  show (if (PySem.W.subIn K (.ref C) (.type "BaseException") == some true) = true then (if ((PySem.W.clsIn K C).isSome && PySem.W.typeIn K (.ref C) == some (.type "type")) = true then PySem.W.subIn K (.ref S) (.ref C) else none) else none) = some b
  rw [if_pos e1, if_pos e2]
  exact h4
theorem sN {H H1 : Hp} {p : Addr} {o : HO} (s : Same H H1) (n : H1 p = none) : Same H (upd H1 p o) := fun b u e => by
  rw [upd_ne (ne_of_none (s b u e) n)]
  exact s b u e
theorem seqT {K : PySem.W.Frag} {H H' : Hp} {a : Addr} {xs : List V} (e : Same H H') (h : SqT K H a xs) : SqT K H' a xs := by
  rcases h with (h | ⟨o, h⟩) | h
  · exact .inl (.inl (e _ _ h))
  · exact .inl (.inr ⟨o, e _ _ h⟩)
  · exact .inr h
theorem ite3 {b : Bool} {A B : Prop} (h1 : b = true → A) (h2 : b = false → B) : if b = true then A else B := by
  cases b with
  | true => exact iteT (h1 rfl)
  | false => exact iteF (h2 rfl)
section
variable {X : Cx}
def rInS (K : PySem.W.Frag) : R2 := fun x y H Q => ∃ p xs, y = .ref p ∧ (SqL K H p xs ∨ SqT K H p xs) ∧ flatV x = true ∧ xs.all flatV = true ∧ Q (.bl (inV x xs)) H
def rNotInS (K : PySem.W.Frag) : R2 := fun x y H Q => ∃ p xs, y = .ref p ∧ (SqL K H p xs ∨ SqT K H p xs) ∧ flatV x = true ∧ xs.all flatV = true ∧ Q (.bl (!inV x xs)) H
theorem op_inS : OpR X (compareOp .In) (rInS X.K) := fun pins s σ H x y v u Q I rx ry h => op_in_seq pins s σ H x y v u Q I rx ry h
theorem op_notInS : OpR X (compareOp .NotIn) (rNotInS X.K) := fun pins s σ H x y v u Q I rx ry h => op_notIn_seq pins s σ H x y v u Q I rx ry h
end
theorem at0 {v : V} {r : List V} : atI (v :: r) 0 = some v := atI_nat (j := 0) rfl
theorem sUpd {H H1 : Hp} {p : Addr} {o : HO} (s : Same H H1) (n : H p = none) : Same H (upd H1 p o) := fun b u e => by
  rw [upd_ne (ne_of_none e n)]
  exact s b u e
/-! ### match over a value -/
structure PMC (X : Cx) (cases : List MatchCase) (t : V → TS) : Prop where
  run : ∀ (first : Bool) (pins : List (Addr × Obj)) (s : Shared) (σ : St) (H : Hp) (D : Ends) (x : V) (v : Value), Inv X pins σ H s → RelV x v → t x D σ H → wpAny (model X.prog X.w) X.A (matchCases cases X.env v first) (SP X pins D) X.xe s
def mNil : V → TS := fun _ D σ H => D.nx σ H
def mStr (z : Str) (t : TS) (u : V → TS) : V → TS := fun x D σ H => scal x (.str z) = true ∧ if decide (x = .str z) = true then t D σ H else u x D σ H
def tMatch (te : TE) (t : V → TS) : TS := fun D σ H => te σ H fun x H1 => t x D σ H1
section
variable {X : Cx}
theorem pmc_nil : PMC X [] mNil := ⟨fun _ _ _ σ H D x v I _ h => wpAny_matchCases_nil ⟨σ, H, I, h⟩⟩
theorem pmc_str {z : Str} {j : Nat} {p p2 : Pos} {body : List Stmt} {rest : List MatchCase} {t : TS} {u : V → TS} (hb : PSs X body t) (hr : PMC X rest u) : PMC X (⟨.MatchValue (.Constant (.str z) j p) p2, none, body⟩ :: rest) (mStr z t u) := by
  refine ⟨fun first pins s σ H D x v I r h => ?_⟩
  obtain ⟨hs, h⟩ := h
  refine wpAny_matchCases_cons (wpAny_matchPattern_Value ?_)
  have hz : PE X (.Constant (.str z) j p) (tC (.str z)) := pe_str
  refine thn (hz.run pins s σ H (fun y H1 => y = .str z ∧ H1 = H) I ⟨rfl, rfl⟩) fun w s1 ⟨y, H1, I1, r1, e1, e2⟩ => ?_
  subst e1; subst e2
  refine thn (op_eq pins s1 σ H1 x (.str z) v w (fun y H2 => y = .bl (decide (x = .str z)) ∧ H2 = H1) I1 r r1 ⟨hs, rfl, rfl⟩) fun c s2 ⟨y, H2, I2, r2, e1, e2⟩ => ?_
  subst e1; subst e2
  cases r2
  refine wpAny_truthy_bool ?_
  cases e : decide (x = V.str z) with
  | true =>
    rw [e] at h
    refine wpAny_assignInOrder_none ?_
    exact hb.run pins s2 σ H2 D I2 (by simpa using h)
  | false =>
    rw [e] at h
    exact hr.run false pins s2 σ H2 D x v I2 r (by simpa using h)
theorem ps_match {e : Expr} {cs : List MatchCase} {pos : Pos} {te : TE} {t : V → TS} (he : PE X e te) (hc : PMC X cs t) : PS X (.Match e cs pos) (tMatch te t) := by
  refine ⟨fun pins s σ H D I h => ?_⟩
  exact wpAny_Match (thn (he.run pins s σ H _ I h) fun v s1 ⟨x, H1, I1, r1, q1⟩ => hc.run true pins s1 σ H1 D x v I1 r1 q1)
/-- isinstance(e, c) in a suite, whatever the caught class is -/
def rIsEx (K : PySem.W.Frag) (a : Addr) (cls : Value) (d : Option Addr) : List V → Hp → VK → Prop := fun xs H Q => ∃ D, cls = .ref D ∧ d = none ∧ ExcC K D ∧ rIsE K D a xs H Q
theorem call_isEx {a : Addr} {cls : Value} {d : Option Addr} {oe : Obj} {pn : List (Addr × Obj)} (hz : Zc cls d oe) (hf : ∃ vs, oe.data = .fields vs) : CallR (X.suite a ((a, oe) :: pn)) (.builtin "isinstance") (rIsEx X.K a cls d) := by
  intro pins s σ H xs us Q I r h
  obtain ⟨D, rfl, rfl, C, h⟩ := h
  exact call_isE C hz hf pins s σ H xs us Q I r h
end
theorem kit_self {K : PySem.W.Frag} {D : Addr} : PySem.W.kitOne K (.ref D) (.ref D) = some true := by
  unfold PySem.W.kitOne
  rw [if_pos (by simp)]
theorem kit_no {K : PySem.W.Frag} {D C : Addr} (h : PySem.W.subIn K (.ref D) (.ref C) = some false) (hs : PySem.W.subIn K (.ref C) (.ref C) = some true) (h2 : PySem.W.isClsIn K C = true) (h3 : PySem.W.typeIn K (.ref C) = some (.type "type")) :
    PySem.W.kitOne K (.ref D) (.ref C) = some false := by
  have ne : ¬ ((Value.ref D == Value.ref C) = true) := fun e => by
    have e' : D = C := by simpa using e
    subst e'
    rw [h] at hs
    exact nomatch hs
  have e2 : ((PySem.W.clsIn K C).isSome && PySem.W.typeIn K (.ref C) == some (.type "type")) = true := by
    have h2' : (PySem.W.clsIn K C).isSome = true := h2
    rw [h2', h3] <;> rfl
  unfold PySem.W.kitOne
  rw [if_neg ne]
  show (if ((PySem.W.clsIn K C).isSome && PySem.W.typeIn K (.ref C) == some (.type "type")) = true then PySem.W.subIn K (.ref D) (.ref C) else none) = some false
  rw [if_pos e2]
  exact h
theorem kit_sub {K : PySem.W.Frag} {D C : Addr} {b : Bool} (h : PySem.W.subIn K (.ref D) (.ref C) = some b) (hs : b = false → PySem.W.subIn K (.ref C) (.ref C) = some true) (h2 : PySem.W.isClsIn K C = true) (h3 : PySem.W.typeIn K (.ref C) = some (.type "type")) :
    PySem.W.kitOne K (.ref D) (.ref C) = some b := by
  cases b with
  | false => exact kit_no h (hs rfl) h2 h3
  | true =>
    have e2 : ((PySem.W.clsIn K C).isSome && PySem.W.typeIn K (.ref C) == some (.type "type")) = true := by
      have h2' : (PySem.W.clsIn K C).isSome = true := h2
      rw [h2', h3] <;> rfl
    unfold PySem.W.kitOne
    split
    · rfl
    · show (if ((PySem.W.clsIn K C).isSome && PySem.W.typeIn K (.ref C) == some (.type "type")) = true then PySem.W.subIn K (.ref D) (.ref C) else none) = some true
      rw [if_pos e2]
      exact h
theorem kit_bt {K : PySem.W.Frag} {D : Addr} {n : String} {b : Bool} (hm : PySem.W.kitMeta n = true) (h : PySem.W.subIn K (.ref D) (.type n) = some b) : PySem.W.kitOne K (.ref D) (.type n) = some b := by
  unfold PySem.W.kitOne
  rw [if_neg (by simp)]
  show (if PySem.W.kitMeta n = true then PySem.W.subIn K (.ref D) (.type n) else none) = some b
  rw [if_pos hm]
  exact h
/-! ### a method that may raise, called in a try -/
section
variable {X : Cx} {CX : CXT} {k : Nat} {f C : Addr} {fd : FuncData} {ps : List Str} {sp : Sp} {E : St → XK} {m : Str} {pos apos : Pos} {e o : Expr} {es : List Expr} {ta : TE} {t : TA}
def tMethE (C : Addr) (m : Str) (sp : Sp) (E : St → XK) (ta : TE) (t : TA) : TE := fun σ H Q => ta σ H fun x H1 => ∃ a dx fs, x = .ref a ∧ H1 a = some (.ins C dx fs) ∧ fs.lookup m = none ∧ t σ H1 fun vs H2 => sp (x :: vs) H2 Q (E σ)
theorem pe_methE0 {pl : Sem Bool} (he : PE X o ta) (c : Cls X.K C) (hm : Meth X.K C m f) (F : FnOk X.prog X.w X.K X.mg X.base CX k f fd ps sp) (hr : Room k X.A) (hb : Binds X.K fd ps []) (hx : ∀ σ, PassesAt CX X σ (E σ))
    (ht : eval (.Call (.Attribute o m apos) [] [] pos) X.env = (do
      let ov ← eval o X.env
      standAt apos.atName
      let (f, first) ← holding [ov] (getMethod ov m pl)
      callWith pos f first (backTo pos (starEach [] X.env)) (backToKw pos (keywordEach [] X.env))) := by rfl) :
    PE X (.Call (.Attribute o m apos) [] [] pos) (tMethE C m sp E ta tNil) := by
  refine ⟨fun pins s σ H Q I h => ?_⟩
  refine PySem.W.methodCall_KW (pl := pl) (thn (he.run pins s σ H _ I h) fun u s1 ⟨x, H1, I1, rx, a, dx, fs, ex, ea, l, q⟩ => ?_) ht
  subst ex
  obtain rfl : u = Value.ref a := rx
  refine getmeth_ok I1 ea c hm l ?_
  exact PySem.W.callWith_K0 (first := [.ref a]) I1.kIn hm.kp (run_fnS (us := [.ref a]) (vs := [.ref a]) F hr hb (hx σ) I1 (.cons rfl .nil) q)
theorem pe_methE {pl : Sem Bool} (he : PE X o ta) (c : Cls X.K C) (hm : Meth X.K C m f) (F : FnOk X.prog X.w X.K X.mg X.base CX k f fd ps sp) (hr : Room k X.A) (hb : Binds X.K fd ps []) (hx : ∀ σ, PassesAt CX X σ (E σ)) (ha : PA X (e :: es) t)
    (hst : starEach (e :: es) X.env = (false, eval e X.env) :: starEach es X.env := by rfl) (hpl : (backTo pos (starEach es X.env)).any (·.1) = false := by rfl)
    (ht : eval (.Call (.Attribute o m apos) (e :: es) [] pos) X.env = (do
      let ov ← eval o X.env
      standAt apos.atName
      let (f, first) ← holding [ov] (getMethod ov m pl)
      callWith pos f first (backTo pos (starEach (e :: es) X.env)) (backToKw pos (keywordEach [] X.env))) := by rfl) :
    PE X (.Call (.Attribute o m apos) (e :: es) [] pos) (tMethE C m sp E ta t) := by
  refine ⟨fun pins s σ H Q I h => ?_⟩
  refine PySem.W.methodCall_KW (pl := pl) (thn (he.run pins s σ H _ I h) fun u s1 ⟨x, H1, I1, rx, a, dx, fs, ex, ea, l, q⟩ => ?_) ht
  subst ex
  obtain rfl : u = Value.ref a := rx
  refine getmeth_ok I1 ea c hm l ?_
  refine PySem.W.callWith_K (first := [.ref a]) (h₀ := X.base) I.ok.mod.kin hm.kp (thn (ha.run pos pins s1 σ H1 _ I1 q) fun us s2 ⟨vs, H2, I2, r, q2⟩ => ⟨I2.kIn, ?_⟩) hst hpl
  exact run_fnS (us := .ref a :: us) (vs := .ref a :: vs) F hr hb (hx σ) I2 (.cons rfl r) q2
end
def spNever : Sp := fun _ _ _ _ => False
theorem tyx_tup {K : PySem.W.Frag} {H : Hp} {a : Addr} {xs : List V} (h : SqT K H a xs) : TyX K H (.ref a) (.type "tuple") := by
  rcases h with (h | ⟨o, h⟩) | ⟨o, its, n, hk, hc, _⟩
  · exact .base (.tup h)
  · exact .fTuple h
  · exact .kTuple hk hc

def top (i : Nat) : Stmt := PySem.Challenge.pw_windowada_k54_first_free_places.main.body.getD i (.Pass ⟨0, 0, 0, 0⟩)
abbrev s_Unit___init__ : Stmt := inClass (top 4) 0
abbrev s_Module___init__ : Stmt := inClass (top 5) 0
abbrev s_operands : Stmt := top 6
abbrev s_reads : Stmt := top 7
abbrev s_writes : Stmt := top 8
abbrev s_can_raise : Stmt := top 9
abbrev s_followers : Stmt := top 10
abbrev s_edges : Stmt := top 12
abbrev s_ways_back : Stmt := top 13
abbrev s_taken_regions : Stmt := top 14
abbrev s_first_free_flow : Stmt := top 15
abbrev s_live_masks : Stmt := top 18
abbrev s_mask_of : Stmt := top 19
abbrev s_numbers_of : Stmt := top 20
abbrev s_needed_at : Stmt := top 21
abbrev s_conflicts : Stmt := top 25
abbrev s_assign : Stmt := top 26
abbrev s_registers_read : Stmt := top 27
abbrev s_live_arguments : Stmt := top 28
abbrev s_add_conflicts : Stmt := top 29
abbrev s_in_both_ways : Stmt := top 30
abbrev s_first_free_assign : Stmt := top 31
abbrev s_law_start : Stmt := top 34
abbrev s_law_take : Stmt := top 35
abbrev s_law_place : Stmt := top 36
abbrev s_law_operand : Stmt := top 37
abbrev s_law_target : Stmt := top 38
abbrev s_law_around : Stmt := top 39
abbrev s_law_memory : Stmt := top 40
abbrev s_law_call : Stmt := top 41
abbrev s_law_instruction : Stmt := top 42
abbrev s_law_regions : Stmt := top 43
abbrev s_law_unit : Stmt := top 44
abbrev s_law_shapes : Stmt := top 45
abbrev s_law_module : Stmt := top 46
abbrev s_law_operands : Stmt := top 47
abbrev s_law_reads : Stmt := top 48
abbrev s_law_writes : Stmt := top 49
abbrev s_law_onward : Stmt := top 50
abbrev s_law_ways : Stmt := top 51
abbrev s_law_live : Stmt := top 52
abbrev s_law_pairs : Stmt := top 53
abbrev s_law_conflicts : Stmt := top 54
abbrev s_law_first_free : Stmt := top 55
abbrev s_law_assigned : Stmt := top 56
abbrev s_law_same : Stmt := top 57
abbrev s_law : Stmt := top 58
theorem sc_Unit___init__ : FnScope ["self", "parent", "arguments", "results", "registers", "cells", "code", "regions"] ["self", "parent", "arguments", "results", "registers", "cells", "code", "regions"] (defScope s_Unit___init__) := ⟨rfl, rfl, rfl, by decide +kernel, rfl, by decide +kernel, by decide +kernel⟩
theorem sc_Module___init__ : FnScope ["self", "units", "names", "places"] ["self", "units", "names", "places"] (defScope s_Module___init__) := ⟨rfl, rfl, rfl, by decide +kernel, rfl, by decide +kernel, by decide +kernel⟩
theorem sc_operands : FnScope ["instruction", "part"] ["instruction"] (defScope s_operands) := ⟨rfl, rfl, rfl, by decide +kernel, rfl, by decide +kernel, by decide +kernel⟩
theorem sc_reads : FnScope ["instruction", "kind", "number"] ["instruction"] (defScope s_reads) := ⟨rfl, rfl, rfl, by decide +kernel, rfl, by decide +kernel, by decide +kernel⟩
theorem sc_writes : FnScope ["instruction"] ["instruction"] (defScope s_writes) := ⟨rfl, rfl, rfl, by decide +kernel, rfl, by decide +kernel, by decide +kernel⟩
theorem sc_can_raise : FnScope ["instruction"] ["instruction"] (defScope s_can_raise) := ⟨rfl, rfl, rfl, by decide +kernel, rfl, by decide +kernel, by decide +kernel⟩
theorem sc_followers : FnScope ["instruction", "index", "name", "behind"] ["instruction", "index"] (defScope s_followers) := ⟨rfl, rfl, rfl, by decide +kernel, rfl, by decide +kernel, by decide +kernel⟩
theorem sc_edges : FnScope ["unit", "ways", "index", "instruction", "region", "onward"] ["unit"] (defScope s_edges) := ⟨rfl, rfl, rfl, by decide +kernel, rfl, by decide +kernel, by decide +kernel⟩
theorem sc_ways_back : FnScope ["ways", "back", "_", "index", "onward", "target"] ["ways"] (defScope s_ways_back) := ⟨rfl, rfl, rfl, by decide +kernel, rfl, by decide +kernel, by decide +kernel⟩
theorem sc_taken_regions : FnScope ["unit", "size", "taken", "onward", "region", "index"] ["unit"] (defScope s_taken_regions) := ⟨rfl, rfl, rfl, by decide +kernel, rfl, by decide +kernel, by decide +kernel⟩
theorem sc_first_free_flow : FnScope ["onward", "index"] ["onward", "index"] (defScope s_first_free_flow) := ⟨rfl, rfl, rfl, by decide +kernel, rfl, by decide +kernel, by decide +kernel⟩
theorem sc_live_masks : FnScope ["unit", "taken", "back", "needed", "pending", "index", "mask"] ["unit"] (defScope s_live_masks) := ⟨rfl, rfl, rfl, by decide +kernel, rfl, by decide +kernel, by decide +kernel⟩
theorem sc_mask_of : FnScope ["numbers", "mask", "number"] ["numbers"] (defScope s_mask_of) := ⟨rfl, rfl, rfl, by decide +kernel, rfl, by decide +kernel, by decide +kernel⟩
theorem sc_numbers_of : FnScope ["mask", "number"] ["mask"] (defScope s_numbers_of) := ⟨rfl, rfl, rfl, by decide +kernel, rfl, by decide +kernel, by decide +kernel⟩
theorem sc_needed_at : FnScope ["instruction", "index", "region", "needed", "mask", "target"] ["instruction", "index", "region", "needed"] (defScope s_needed_at) := ⟨rfl, rfl, rfl, by decide +kernel, rfl, by decide +kernel, by decide +kernel⟩
theorem sc_conflicts : FnScope ["unit", "needed", "found", "mask", "one", "index", "instruction", "written", "target", "region"] ["unit"] (defScope s_conflicts) := ⟨rfl, rfl, rfl, by decide +kernel, rfl, by decide +kernel, by decide +kernel⟩
theorem sc_assign : FnScope ["unit", "used", "in_conflict", "assignment", "number", "other"] ["unit"] (defScope s_assign) := ⟨rfl, rfl, rfl, by decide +kernel, rfl, by decide +kernel, by decide +kernel⟩
theorem sc_registers_read : FnScope ["unit", "used", "instruction", "number"] ["unit"] (defScope s_registers_read) := ⟨rfl, rfl, rfl, by decide +kernel, rfl, by decide +kernel, by decide +kernel⟩
theorem sc_live_arguments : FnScope ["unit", "number"] ["unit"] (defScope s_live_arguments) := ⟨rfl, rfl, rfl, by decide +kernel, rfl, by decide +kernel, by decide +kernel⟩
theorem sc_add_conflicts : FnScope ["found", "some", "others", "number"] ["found", "some", "others"] (defScope s_add_conflicts) := ⟨rfl, rfl, rfl, by decide +kernel, rfl, by decide +kernel, by decide +kernel⟩
theorem sc_in_both_ways : FnScope ["found", "both", "number", "mask", "other"] ["found"] (defScope s_in_both_ways) := ⟨rfl, rfl, rfl, by decide +kernel, rfl, by decide +kernel, by decide +kernel⟩
theorem sc_first_free_assign : FnScope ["places", "number", "slot"] ["places"] (defScope s_first_free_assign) := ⟨rfl, rfl, rfl, by decide +kernel, rfl, by decide +kernel, by decide +kernel⟩
theorem sc_law_start : FnScope ["script", "great", "seed", "cell", "state"] ["script"] (defScope s_law_start) := ⟨rfl, rfl, rfl, by decide +kernel, rfl, by decide +kernel, by decide +kernel⟩
theorem sc_law_take : FnScope ["state", "many", "digit", "mixed"] ["state", "many"] (defScope s_law_take) := ⟨rfl, rfl, rfl, by decide +kernel, rfl, by decide +kernel, by decide +kernel⟩
theorem sc_law_place : FnScope ["state"] ["state"] (defScope s_law_place) := ⟨rfl, rfl, rfl, by decide +kernel, rfl, by decide +kernel, by decide +kernel⟩
theorem sc_law_operand : FnScope ["state", "shape"] ["state", "shape"] (defScope s_law_operand) := ⟨rfl, rfl, rfl, by decide +kernel, rfl, by decide +kernel, by decide +kernel⟩
theorem sc_law_target : FnScope ["state", "index", "ticks", "target"] ["state", "index", "ticks"] (defScope s_law_target) := ⟨rfl, rfl, rfl, by decide +kernel, rfl, by decide +kernel, by decide +kernel⟩
theorem sc_law_around : FnScope ["shapes", "number", "hops", "k"] ["shapes", "number", "hops"] (defScope s_law_around) := ⟨rfl, rfl, rfl, by decide +kernel, rfl, by decide +kernel, by decide +kernel⟩
theorem sc_law_memory : FnScope ["state", "shapes", "number", "shape", "hops", "cells", "cell", "count", "element"] ["state", "shapes", "number"] (defScope s_law_memory) := ⟨rfl, rfl, rfl, by decide +kernel, rfl, by decide +kernel, by decide +kernel⟩
theorem sc_law_call : FnScope ["state", "shapes", "number", "shape", "hops", "parent", "called", "k", "other", "given", "first", "results"] ["state", "shapes", "number"] (defScope s_law_call) := ⟨rfl, rfl, rfl, by decide +kernel, rfl, by decide +kernel, by decide +kernel⟩
theorem sc_law_instruction : FnScope ["state", "shapes", "number", "index", "ticks", "regions", "shape", "kind", "d", "p", "x", "op", "low", "region", "k"] ["state", "shapes", "number", "index", "ticks", "regions"] (defScope s_law_instruction) := ⟨rfl, rfl, rfl, by decide +kernel, rfl, by decide +kernel, by decide +kernel⟩
theorem sc_law_regions : FnScope ["state", "shape", "size", "regions", "k", "start", "stop", "entry", "first", "second"] ["state", "shape", "size"] (defScope s_law_regions) := ⟨rfl, rfl, rfl, by decide +kernel, rfl, by decide +kernel, by decide +kernel⟩
theorem sc_law_unit : FnScope ["state", "shapes", "number", "shape", "wide", "size", "ticks", "index", "regions", "bare", "code", "last", "k", "ends"] ["state", "shapes", "number"] (defScope s_law_unit) := ⟨rfl, rfl, rfl, by decide +kernel, rfl, by decide +kernel, by decide +kernel⟩
theorem sc_law_shapes : FnScope ["state", "shapes", "more", "number", "parent", "level", "arguments", "results", "registers"] ["state"] (defScope s_law_shapes) := ⟨rfl, rfl, rfl, by decide +kernel, rfl, by decide +kernel, by decide +kernel⟩
theorem sc_law_module : FnScope ["state", "shapes", "units", "number", "names", "places", "k"] ["state"] (defScope s_law_module) := ⟨rfl, rfl, rfl, by decide +kernel, rfl, by decide +kernel, by decide +kernel⟩
theorem sc_law_operands : FnScope ["instruction", "name"] ["instruction"] (defScope s_law_operands) := ⟨rfl, rfl, rfl, by decide +kernel, rfl, by decide +kernel, by decide +kernel⟩
theorem sc_law_reads : FnScope ["instruction", "operand"] ["instruction"] (defScope s_law_reads) := ⟨rfl, rfl, rfl, by decide +kernel, rfl, by decide +kernel, by decide +kernel⟩
theorem sc_law_writes : FnScope ["instruction"] ["instruction"] (defScope s_law_writes) := ⟨rfl, rfl, rfl, by decide +kernel, rfl, by decide +kernel, by decide +kernel⟩
theorem sc_law_onward : FnScope ["unit", "index", "instruction"] ["unit", "index"] (defScope s_law_onward) := ⟨rfl, rfl, rfl, by decide +kernel, rfl, by decide +kernel, by decide +kernel⟩
theorem sc_law_ways : FnScope ["unit", "index", "instruction", "ways", "following", "raising", "region"] ["unit", "index"] (defScope s_law_ways) := ⟨rfl, rfl, rfl, by decide +kernel, rfl, by decide +kernel, by decide +kernel⟩
theorem sc_law_live : FnScope ["unit", "size", "rows", "k", "instruction", "ways", "index", "turn", "grew", "back", "way", "row"] ["unit"] (defScope s_law_live) := ⟨rfl, rfl, rfl, by decide +kernel, rfl, by decide +kernel, by decide +kernel⟩
theorem sc_law_pairs : FnScope ["found", "first", "second", "one", "other", "row"] ["found", "first", "second"] (defScope s_law_pairs) := ⟨rfl, rfl, rfl, by decide +kernel, rfl, by decide +kernel, by decide +kernel⟩
theorem sc_law_conflicts : FnScope ["unit", "live", "k", "row", "found", "index", "written", "following", "region"] ["unit"] (defScope s_law_conflicts) := ⟨rfl, rfl, rfl, by decide +kernel, rfl, by decide +kernel, by decide +kernel⟩
theorem sc_law_first_free : FnScope ["taken", "order", "k", "place"] ["taken"] (defScope s_law_first_free) := ⟨rfl, rfl, rfl, by decide +kernel, rfl, by decide +kernel, by decide +kernel⟩
theorem sc_law_assigned : FnScope ["unit", "used", "instruction", "first", "found", "places", "k", "j"] ["unit"] (defScope s_law_assigned) := ⟨rfl, rfl, rfl, by decide +kernel, rfl, by decide +kernel, by decide +kernel⟩
theorem sc_law_same : FnScope ["assignment", "due", "k", "place"] ["assignment", "due"] (defScope s_law_same) := ⟨rfl, rfl, rfl, by decide +kernel, rfl, by decide +kernel, by decide +kernel⟩
theorem sc_law : FnScope ["script", "state", "module", "unit", "due", "code"] ["script"] (defScope s_law) := ⟨rfl, rfl, rfl, by decide +kernel, rfl, by decide +kernel, by decide +kernel⟩
structure Ad where
  f_Unit___init__ : Addr
  d_Unit___init__ : FuncData
  f_Module___init__ : Addr
  d_Module___init__ : FuncData
  f_operands : Addr
  d_operands : FuncData
  f_reads : Addr
  d_reads : FuncData
  f_writes : Addr
  d_writes : FuncData
  f_can_raise : Addr
  d_can_raise : FuncData
  f_followers : Addr
  d_followers : FuncData
  f_edges : Addr
  d_edges : FuncData
  f_ways_back : Addr
  d_ways_back : FuncData
  f_taken_regions : Addr
  d_taken_regions : FuncData
  f_first_free_flow : Addr
  d_first_free_flow : FuncData
  f_live_masks : Addr
  d_live_masks : FuncData
  f_mask_of : Addr
  d_mask_of : FuncData
  f_numbers_of : Addr
  d_numbers_of : FuncData
  f_needed_at : Addr
  d_needed_at : FuncData
  f_conflicts : Addr
  d_conflicts : FuncData
  f_assign : Addr
  d_assign : FuncData
  f_registers_read : Addr
  d_registers_read : FuncData
  f_live_arguments : Addr
  d_live_arguments : FuncData
  f_add_conflicts : Addr
  d_add_conflicts : FuncData
  f_in_both_ways : Addr
  d_in_both_ways : FuncData
  f_first_free_assign : Addr
  d_first_free_assign : FuncData
  f_law_start : Addr
  d_law_start : FuncData
  f_law_take : Addr
  d_law_take : FuncData
  f_law_place : Addr
  d_law_place : FuncData
  f_law_operand : Addr
  d_law_operand : FuncData
  f_law_target : Addr
  d_law_target : FuncData
  f_law_around : Addr
  d_law_around : FuncData
  f_law_memory : Addr
  d_law_memory : FuncData
  f_law_call : Addr
  d_law_call : FuncData
  f_law_instruction : Addr
  d_law_instruction : FuncData
  f_law_regions : Addr
  d_law_regions : FuncData
  f_law_unit : Addr
  d_law_unit : FuncData
  f_law_shapes : Addr
  d_law_shapes : FuncData
  f_law_module : Addr
  d_law_module : FuncData
  f_law_operands : Addr
  d_law_operands : FuncData
  f_law_reads : Addr
  d_law_reads : FuncData
  f_law_writes : Addr
  d_law_writes : FuncData
  f_law_onward : Addr
  d_law_onward : FuncData
  f_law_ways : Addr
  d_law_ways : FuncData
  f_law_live : Addr
  d_law_live : FuncData
  f_law_pairs : Addr
  d_law_pairs : FuncData
  f_law_conflicts : Addr
  d_law_conflicts : FuncData
  f_law_first_free : Addr
  d_law_first_free : FuncData
  f_law_assigned : Addr
  d_law_assigned : FuncData
  f_law_same : Addr
  d_law_same : FuncData
  f_law : Addr
  d_law : FuncData
  t_INS : Tok
  c_LEAVING : Addr
  t_LOCALS : Tok
  c_RAISING : Addr
  c_WRITING : Addr
  C_Unit : Addr
  C_Module : Addr
structure Txt (K : PySem.W.Frag) (mg : Str → Option Value) (a : Ad) : Prop where
  F_Unit___init__ : Fun K "__init__" "Unit.__init__" s_Unit___init__ a.f_Unit___init__ a.d_Unit___init__
  k_Unit___init__ : PySem.W.keepIn K (.ref a.f_Unit___init__) = true
  bd_Unit___init__ : Binds K a.d_Unit___init__ ["self", "parent", "arguments", "results", "registers", "cells", "code", "regions"] []
  F_Module___init__ : Fun K "__init__" "Module.__init__" s_Module___init__ a.f_Module___init__ a.d_Module___init__
  k_Module___init__ : PySem.W.keepIn K (.ref a.f_Module___init__) = true
  bd_Module___init__ : Binds K a.d_Module___init__ ["self", "units", "names", "places"] []
  g_operands : mg "operands" = some (.ref a.f_operands)
  F_operands : Fun K "operands" "operands" s_operands a.f_operands a.d_operands
  k_operands : PySem.W.keepIn K (.ref a.f_operands) = true
  bd_operands : Binds K a.d_operands ["instruction"] []
  g_reads : mg "reads" = some (.ref a.f_reads)
  F_reads : Fun K "reads" "reads" s_reads a.f_reads a.d_reads
  k_reads : PySem.W.keepIn K (.ref a.f_reads) = true
  bd_reads : Binds K a.d_reads ["instruction"] []
  g_writes : mg "writes" = some (.ref a.f_writes)
  F_writes : Fun K "writes" "writes" s_writes a.f_writes a.d_writes
  k_writes : PySem.W.keepIn K (.ref a.f_writes) = true
  bd_writes : Binds K a.d_writes ["instruction"] []
  g_can_raise : mg "can_raise" = some (.ref a.f_can_raise)
  F_can_raise : Fun K "can_raise" "can_raise" s_can_raise a.f_can_raise a.d_can_raise
  k_can_raise : PySem.W.keepIn K (.ref a.f_can_raise) = true
  bd_can_raise : Binds K a.d_can_raise ["instruction"] []
  g_followers : mg "followers" = some (.ref a.f_followers)
  F_followers : Fun K "followers" "followers" s_followers a.f_followers a.d_followers
  k_followers : PySem.W.keepIn K (.ref a.f_followers) = true
  bd_followers : Binds K a.d_followers ["instruction", "index"] []
  g_edges : mg "edges" = some (.ref a.f_edges)
  F_edges : Fun K "edges" "edges" s_edges a.f_edges a.d_edges
  k_edges : PySem.W.keepIn K (.ref a.f_edges) = true
  bd_edges : Binds K a.d_edges ["unit"] []
  g_ways_back : mg "ways_back" = some (.ref a.f_ways_back)
  F_ways_back : Fun K "ways_back" "ways_back" s_ways_back a.f_ways_back a.d_ways_back
  k_ways_back : PySem.W.keepIn K (.ref a.f_ways_back) = true
  bd_ways_back : Binds K a.d_ways_back ["ways"] []
  g_taken_regions : mg "taken_regions" = some (.ref a.f_taken_regions)
  F_taken_regions : Fun K "taken_regions" "taken_regions" s_taken_regions a.f_taken_regions a.d_taken_regions
  k_taken_regions : PySem.W.keepIn K (.ref a.f_taken_regions) = true
  bd_taken_regions : Binds K a.d_taken_regions ["unit"] []
  g_first_free_flow : mg "first_free_flow" = some (.ref a.f_first_free_flow)
  F_first_free_flow : Fun K "_first_free" "_first_free" s_first_free_flow a.f_first_free_flow a.d_first_free_flow
  k_first_free_flow : PySem.W.keepIn K (.ref a.f_first_free_flow) = true
  bd_first_free_flow : Binds K a.d_first_free_flow ["onward", "index"] []
  g_live_masks : mg "live_masks" = some (.ref a.f_live_masks)
  F_live_masks : Fun K "live_masks" "live_masks" s_live_masks a.f_live_masks a.d_live_masks
  k_live_masks : PySem.W.keepIn K (.ref a.f_live_masks) = true
  bd_live_masks : Binds K a.d_live_masks ["unit"] []
  g_mask_of : mg "mask_of" = some (.ref a.f_mask_of)
  F_mask_of : Fun K "mask_of" "mask_of" s_mask_of a.f_mask_of a.d_mask_of
  k_mask_of : PySem.W.keepIn K (.ref a.f_mask_of) = true
  bd_mask_of : Binds K a.d_mask_of ["numbers"] []
  g_numbers_of : mg "numbers_of" = some (.ref a.f_numbers_of)
  F_numbers_of : Fun K "numbers_of" "numbers_of" s_numbers_of a.f_numbers_of a.d_numbers_of
  k_numbers_of : PySem.W.keepIn K (.ref a.f_numbers_of) = true
  bd_numbers_of : Binds K a.d_numbers_of ["mask"] []
  g__needed_at : mg "_needed_at" = some (.ref a.f_needed_at)
  F__needed_at : Fun K "_needed_at" "_needed_at" s_needed_at a.f_needed_at a.d_needed_at
  k__needed_at : PySem.W.keepIn K (.ref a.f_needed_at) = true
  bd__needed_at : Binds K a.d_needed_at ["instruction", "index", "region", "needed"] []
  g_conflicts : mg "conflicts" = some (.ref a.f_conflicts)
  F_conflicts : Fun K "conflicts" "conflicts" s_conflicts a.f_conflicts a.d_conflicts
  k_conflicts : PySem.W.keepIn K (.ref a.f_conflicts) = true
  bd_conflicts : Binds K a.d_conflicts ["unit"] []
  g_assign : mg "assign" = some (.ref a.f_assign)
  F_assign : Fun K "assign" "assign" s_assign a.f_assign a.d_assign
  k_assign : PySem.W.keepIn K (.ref a.f_assign) = true
  bd_assign : Binds K a.d_assign ["unit"] []
  g_registers_read : mg "registers_read" = some (.ref a.f_registers_read)
  F_registers_read : Fun K "registers_read" "registers_read" s_registers_read a.f_registers_read a.d_registers_read
  k_registers_read : PySem.W.keepIn K (.ref a.f_registers_read) = true
  bd_registers_read : Binds K a.d_registers_read ["unit"] []
  g_live_arguments : mg "live_arguments" = some (.ref a.f_live_arguments)
  F_live_arguments : Fun K "live_arguments" "live_arguments" s_live_arguments a.f_live_arguments a.d_live_arguments
  k_live_arguments : PySem.W.keepIn K (.ref a.f_live_arguments) = true
  bd_live_arguments : Binds K a.d_live_arguments ["unit"] []
  g__add_conflicts : mg "_add_conflicts" = some (.ref a.f_add_conflicts)
  F__add_conflicts : Fun K "_add_conflicts" "_add_conflicts" s_add_conflicts a.f_add_conflicts a.d_add_conflicts
  k__add_conflicts : PySem.W.keepIn K (.ref a.f_add_conflicts) = true
  bd__add_conflicts : Binds K a.d_add_conflicts ["found", "some", "others"] []
  g__in_both_ways : mg "_in_both_ways" = some (.ref a.f_in_both_ways)
  F__in_both_ways : Fun K "_in_both_ways" "_in_both_ways" s_in_both_ways a.f_in_both_ways a.d_in_both_ways
  k__in_both_ways : PySem.W.keepIn K (.ref a.f_in_both_ways) = true
  bd__in_both_ways : Binds K a.d_in_both_ways ["found"] []
  g_first_free_assign : mg "first_free_assign" = some (.ref a.f_first_free_assign)
  F_first_free_assign : Fun K "_first_free" "_first_free" s_first_free_assign a.f_first_free_assign a.d_first_free_assign
  k_first_free_assign : PySem.W.keepIn K (.ref a.f_first_free_assign) = true
  bd_first_free_assign : Binds K a.d_first_free_assign ["places"] []
  g__law_start : mg "_law_start" = some (.ref a.f_law_start)
  F__law_start : Fun K "_law_start" "_law_start" s_law_start a.f_law_start a.d_law_start
  k__law_start : PySem.W.keepIn K (.ref a.f_law_start) = true
  bd__law_start : Binds K a.d_law_start ["script"] []
  g__law_take : mg "_law_take" = some (.ref a.f_law_take)
  F__law_take : Fun K "_law_take" "_law_take" s_law_take a.f_law_take a.d_law_take
  k__law_take : PySem.W.keepIn K (.ref a.f_law_take) = true
  bd__law_take : Binds K a.d_law_take ["state", "many"] []
  g__law_place : mg "_law_place" = some (.ref a.f_law_place)
  F__law_place : Fun K "_law_place" "_law_place" s_law_place a.f_law_place a.d_law_place
  k__law_place : PySem.W.keepIn K (.ref a.f_law_place) = true
  bd__law_place : Binds K a.d_law_place ["state"] []
  g__law_operand : mg "_law_operand" = some (.ref a.f_law_operand)
  F__law_operand : Fun K "_law_operand" "_law_operand" s_law_operand a.f_law_operand a.d_law_operand
  k__law_operand : PySem.W.keepIn K (.ref a.f_law_operand) = true
  bd__law_operand : Binds K a.d_law_operand ["state", "shape"] []
  g__law_target : mg "_law_target" = some (.ref a.f_law_target)
  F__law_target : Fun K "_law_target" "_law_target" s_law_target a.f_law_target a.d_law_target
  k__law_target : PySem.W.keepIn K (.ref a.f_law_target) = true
  bd__law_target : Binds K a.d_law_target ["state", "index", "ticks"] []
  g__law_around : mg "_law_around" = some (.ref a.f_law_around)
  F__law_around : Fun K "_law_around" "_law_around" s_law_around a.f_law_around a.d_law_around
  k__law_around : PySem.W.keepIn K (.ref a.f_law_around) = true
  bd__law_around : Binds K a.d_law_around ["shapes", "number", "hops"] []
  g__law_memory : mg "_law_memory" = some (.ref a.f_law_memory)
  F__law_memory : Fun K "_law_memory" "_law_memory" s_law_memory a.f_law_memory a.d_law_memory
  k__law_memory : PySem.W.keepIn K (.ref a.f_law_memory) = true
  bd__law_memory : Binds K a.d_law_memory ["state", "shapes", "number"] []
  g__law_call : mg "_law_call" = some (.ref a.f_law_call)
  F__law_call : Fun K "_law_call" "_law_call" s_law_call a.f_law_call a.d_law_call
  k__law_call : PySem.W.keepIn K (.ref a.f_law_call) = true
  bd__law_call : Binds K a.d_law_call ["state", "shapes", "number"] []
  g__law_instruction : mg "_law_instruction" = some (.ref a.f_law_instruction)
  F__law_instruction : Fun K "_law_instruction" "_law_instruction" s_law_instruction a.f_law_instruction a.d_law_instruction
  k__law_instruction : PySem.W.keepIn K (.ref a.f_law_instruction) = true
  bd__law_instruction : Binds K a.d_law_instruction ["state", "shapes", "number", "index", "ticks", "regions"] []
  g__law_regions : mg "_law_regions" = some (.ref a.f_law_regions)
  F__law_regions : Fun K "_law_regions" "_law_regions" s_law_regions a.f_law_regions a.d_law_regions
  k__law_regions : PySem.W.keepIn K (.ref a.f_law_regions) = true
  bd__law_regions : Binds K a.d_law_regions ["state", "shape", "size"] []
  g__law_unit : mg "_law_unit" = some (.ref a.f_law_unit)
  F__law_unit : Fun K "_law_unit" "_law_unit" s_law_unit a.f_law_unit a.d_law_unit
  k__law_unit : PySem.W.keepIn K (.ref a.f_law_unit) = true
  bd__law_unit : Binds K a.d_law_unit ["state", "shapes", "number"] []
  g__law_shapes : mg "_law_shapes" = some (.ref a.f_law_shapes)
  F__law_shapes : Fun K "_law_shapes" "_law_shapes" s_law_shapes a.f_law_shapes a.d_law_shapes
  k__law_shapes : PySem.W.keepIn K (.ref a.f_law_shapes) = true
  bd__law_shapes : Binds K a.d_law_shapes ["state"] []
  g__law_module : mg "_law_module" = some (.ref a.f_law_module)
  F__law_module : Fun K "_law_module" "_law_module" s_law_module a.f_law_module a.d_law_module
  k__law_module : PySem.W.keepIn K (.ref a.f_law_module) = true
  bd__law_module : Binds K a.d_law_module ["state"] []
  g__law_operands : mg "_law_operands" = some (.ref a.f_law_operands)
  F__law_operands : Fun K "_law_operands" "_law_operands" s_law_operands a.f_law_operands a.d_law_operands
  k__law_operands : PySem.W.keepIn K (.ref a.f_law_operands) = true
  bd__law_operands : Binds K a.d_law_operands ["instruction"] []
  g__law_reads : mg "_law_reads" = some (.ref a.f_law_reads)
  F__law_reads : Fun K "_law_reads" "_law_reads" s_law_reads a.f_law_reads a.d_law_reads
  k__law_reads : PySem.W.keepIn K (.ref a.f_law_reads) = true
  bd__law_reads : Binds K a.d_law_reads ["instruction"] []
  g__law_writes : mg "_law_writes" = some (.ref a.f_law_writes)
  F__law_writes : Fun K "_law_writes" "_law_writes" s_law_writes a.f_law_writes a.d_law_writes
  k__law_writes : PySem.W.keepIn K (.ref a.f_law_writes) = true
  bd__law_writes : Binds K a.d_law_writes ["instruction"] []
  g__law_onward : mg "_law_onward" = some (.ref a.f_law_onward)
  F__law_onward : Fun K "_law_onward" "_law_onward" s_law_onward a.f_law_onward a.d_law_onward
  k__law_onward : PySem.W.keepIn K (.ref a.f_law_onward) = true
  bd__law_onward : Binds K a.d_law_onward ["unit", "index"] []
  g__law_ways : mg "_law_ways" = some (.ref a.f_law_ways)
  F__law_ways : Fun K "_law_ways" "_law_ways" s_law_ways a.f_law_ways a.d_law_ways
  k__law_ways : PySem.W.keepIn K (.ref a.f_law_ways) = true
  bd__law_ways : Binds K a.d_law_ways ["unit", "index"] []
  g__law_live : mg "_law_live" = some (.ref a.f_law_live)
  F__law_live : Fun K "_law_live" "_law_live" s_law_live a.f_law_live a.d_law_live
  k__law_live : PySem.W.keepIn K (.ref a.f_law_live) = true
  bd__law_live : Binds K a.d_law_live ["unit"] []
  g__law_pairs : mg "_law_pairs" = some (.ref a.f_law_pairs)
  F__law_pairs : Fun K "_law_pairs" "_law_pairs" s_law_pairs a.f_law_pairs a.d_law_pairs
  k__law_pairs : PySem.W.keepIn K (.ref a.f_law_pairs) = true
  bd__law_pairs : Binds K a.d_law_pairs ["found", "first", "second"] []
  g__law_conflicts : mg "_law_conflicts" = some (.ref a.f_law_conflicts)
  F__law_conflicts : Fun K "_law_conflicts" "_law_conflicts" s_law_conflicts a.f_law_conflicts a.d_law_conflicts
  k__law_conflicts : PySem.W.keepIn K (.ref a.f_law_conflicts) = true
  bd__law_conflicts : Binds K a.d_law_conflicts ["unit"] []
  g__law_first_free : mg "_law_first_free" = some (.ref a.f_law_first_free)
  F__law_first_free : Fun K "_law_first_free" "_law_first_free" s_law_first_free a.f_law_first_free a.d_law_first_free
  k__law_first_free : PySem.W.keepIn K (.ref a.f_law_first_free) = true
  bd__law_first_free : Binds K a.d_law_first_free ["taken"] []
  g__law_assigned : mg "_law_assigned" = some (.ref a.f_law_assigned)
  F__law_assigned : Fun K "_law_assigned" "_law_assigned" s_law_assigned a.f_law_assigned a.d_law_assigned
  k__law_assigned : PySem.W.keepIn K (.ref a.f_law_assigned) = true
  bd__law_assigned : Binds K a.d_law_assigned ["unit"] []
  g__law_same : mg "_law_same" = some (.ref a.f_law_same)
  F__law_same : Fun K "_law_same" "_law_same" s_law_same a.f_law_same a.d_law_same
  k__law_same : PySem.W.keepIn K (.ref a.f_law_same) = true
  bd__law_same : Binds K a.d_law_same ["assignment", "due"] []
  g_law : mg "law" = some (.ref a.f_law)
  F_law : Fun K "law" "law" s_law a.f_law a.d_law
  k_law : PySem.W.keepIn K (.ref a.f_law) = true
  bd_law : Binds K a.d_law ["script"] []
  g_INS : mg "INS" = some (.int (6) a.t_INS)
  g_LEAVING : mg "LEAVING" = some (.ref a.c_LEAVING)
  q_LEAVING : ∀ H : Hp, SqT K H a.c_LEAVING [.str "return", .str "raise", .str "again"]
  g_LOCALS : mg "LOCALS" = some (.int (8) a.t_LOCALS)
  g_RAISING : mg "RAISING" = some (.ref a.c_RAISING)
  q_RAISING : ∀ H : Hp, SqT K H a.c_RAISING [.str "neg", .str "abs", .str "add", .str "sub", .str "mul", .str "div", .str "mod", .str "rem", .str "check", .str "call", .str "raise", .str "again", .str "get"]
  g_WRITING : mg "WRITING" = some (.ref a.c_WRITING)
  q_WRITING : ∀ H : Hp, SqT K H a.c_WRITING [.str "move", .str "neg", .str "abs", .str "add", .str "sub", .str "mul", .str "div", .str "mod", .str "rem", .str "less", .str "equal", .str "load", .str "get"]
  b_bool : mg "bool" = none
  b_enumerate : mg "enumerate" = none
  b_int : mg "int" = none
  b_isinstance : mg "isinstance" = none
  b_len : mg "len" = none
  b_list : mg "list" = none
  b_max : mg "max" = none
  b_min : mg "min" = none
  b_range : mg "range" = none
  b_sorted : mg "sorted" = none
  b_str : mg "str" = none
  b_tuple : mg "tuple" = none
  b_zip : mg "zip" = none
  g_Unit : mg "Unit" = some (.ref a.C_Unit)
  cl_Unit : Cls K a.C_Unit
  mk_Unit : Mk K a.C_Unit a.f_Unit___init__
  n_Unit_parent : NoAttr K a.C_Unit "parent"
  n_Unit_arguments : NoAttr K a.C_Unit "arguments"
  n_Unit_results : NoAttr K a.C_Unit "results"
  n_Unit_registers : NoAttr K a.C_Unit "registers"
  n_Unit_cells : NoAttr K a.C_Unit "cells"
  n_Unit_code : NoAttr K a.C_Unit "code"
  n_Unit_regions : NoAttr K a.C_Unit "regions"
  g_Module : mg "Module" = some (.ref a.C_Module)
  cl_Module : Cls K a.C_Module
  mk_Module : Mk K a.C_Module a.f_Module___init__
  n_Module_units : NoAttr K a.C_Module "units"
  n_Module_names : NoAttr K a.C_Module "names"
  n_Module_places : NoAttr K a.C_Module "places"
/-! ### rules of a block over a fixed K -/
theorem ix_tupK {X : Cx} {K : PySem.W.Frag} (h : X.K = K) : IxR X (rIxT K) := by
  subst h
  exact ix_tup
theorem ix_listK {X : Cx} {K : PySem.W.Frag} (h : X.K = K) : IxR X (rIxL K) := by
  subst h
  exact ix_list
theorem call_isiK {X : Cx} {K : PySem.W.Frag} (h : X.K = K) : CallR X (.builtin "isinstance") (rIsi K) := by
  subst h
  exact call_isi
theorem sTr {H H1 H2 : Hp} (x : Same H H1) (y : Same H1 H2) : Same H H2 := fun b o e => y b o (x b o e)
/-! ### data without lists -/
mutual
inductive DT (K : PySem.W.Frag) (H : Hp) : V → PyData → Prop
  | non : DT K H .non .none
  | bl (b : Bool) : DT K H (.bl b) (.bool b)
  | int (i : Int) : DT K H (.int i) (.int i)
  | str (x : Str) : DT K H (.str x) (.str x)
  | tup {a : Addr} {xs : List V} {ds : List PyData} : SqT K H a xs → DTs K H xs ds → DT K H (.ref a) (.tuple ds)
inductive DTs (K : PySem.W.Frag) (H : Hp) : List V → List PyData → Prop
  | nil : DTs K H [] []
  | cons {v : V} {vs : List V} {d : PyData} {ds : List PyData} : DT K H v d → DTs K H vs ds → DTs K H (v :: vs) (d :: ds)
end
section
variable {K : PySem.W.Frag} {H H' H2 : Hp}
theorem DTs.len : ∀ {vs : List V} {ds : List PyData}, DTs K H vs ds → vs.length = ds.length
  | _, _, .nil => rfl
  | _, _, .cons _ r => congrArg (· + 1) r.len
theorem DTs.get : ∀ {vs : List V} {ds : List PyData} {i : Nat} {d : PyData}, DTs K H vs ds → ds[i]? = some d → ∃ v, vs[i]? = some v ∧ DT K H v d
  | _, _, _, _, .nil, e => by simp at e
  | _, _, 0, _, .cons h _, e => by
    obtain rfl := Option.some.inj e
    exact ⟨_, rfl, h⟩
  | _, _, i + 1, d, .cons _ r, e => by
    obtain ⟨v, h1, h2⟩ := r.get (i := i) (d := d) (by simpa using e)
    exact ⟨v, by simpa using h1, h2⟩
theorem DTs.at : ∀ {vs : List V} {ds : List PyData} {i : Nat} {v : V}, DTs K H vs ds → vs[i]? = some v → ∃ d, ds[i]? = some d ∧ DT K H v d
  | _, _, _, _, .nil, e => by simp at e
  | _, _, 0, _, .cons h _, e => by
    obtain rfl := Option.some.inj e
    exact ⟨_, rfl, h⟩
  | _, _, i + 1, v, .cons _ r, e => by
    obtain ⟨d, h1, h2⟩ := r.at (i := i) (v := v) (by simpa using e)
    exact ⟨d, by simpa using h1, h2⟩
theorem DTs.app : ∀ {vs ws : List V} {ds es : List PyData}, DTs K H vs ds → DTs K H ws es → DTs K H (vs ++ ws) (ds ++ es)
  | _, _, _, _, .nil, s => s
  | _, _, _, _, .cons h r, s => .cons h (r.app s)
/-- tuples stay -/
def KT (K : PySem.W.Frag) (H H' : Hp) : Prop := ∀ a xs, SqT K H a xs → SqT K H' a xs
theorem KT.same (s : Same H H') : KT K H H' := fun _ _ h => seqT s h
theorem KT.tr (x : KT K H H') (y : KT K H' H2) : KT K H H2 := fun a xs h => y a xs (x a xs h)
theorem KT.put {p : Addr} {ys : List V} {o : HO} (e : H p = some (.lst ys)) : KT K H (upd H p o) := fun a xs h => by
  rcases h with (h | ⟨u, h⟩) | h
  · exact .inl (.inl (by rw [upd_ne (ne_of h e fun z => nomatch z)]; exact h))
  · exact .inl (.inr ⟨u, by rw [upd_ne (ne_of h e fun z => nomatch z)]; exact h⟩)
  · exact .inr h
theorem KT.new {p : Addr} {o : HO} (n : H p = none) : KT K H (upd H p o) := .same (sN (Same.refl H) n)
mutual
theorem DT.keep (k : KT K H H') : ∀ {v : V} {d : PyData}, DT K H v d → DT K H' v d
  | _, _, .non => .non
  | _, _, .bl b => .bl b
  | _, _, .int b => .int b
  | _, _, .str b => .str b
  | _, _, .tup h r => .tup (k _ _ h) (r.keep k)
theorem DTs.keep (k : KT K H H') : ∀ {vs : List V} {ds : List PyData}, DTs K H vs ds → DTs K H' vs ds
  | _, _, .nil => .nil
  | _, _, .cons h r => .cons (h.keep k) (r.keep k)
end
def isTup : PyData → Bool
  | .tuple _ => true
  | _ => false
theorem DT.isT {v : V} {d : PyData} (h : DT K H v d) : ∃ t, TyX K H v t ∧ PySem.W.kitOne K t (.type "tuple") = some (isTup d) := by
  cases h with
  | non => exact ⟨_, .base .non, kit_ty (by decide +kernel : kitB "NoneType" "tuple" = some false)⟩
  | bl b => exact ⟨_, .base (.bl b), kit_ty (by decide +kernel : kitB "bool" "tuple" = some false)⟩
  | int b => exact ⟨_, .base (.int b), kit_ty (by decide +kernel : kitB "int" "tuple" = some false)⟩
  | str b => exact ⟨_, .base (.str b), kit_ty (by decide +kernel : kitB "str" "tuple" = some false)⟩
  | tup h r => exact ⟨_, tyx_tup h, kit_ty (by decide +kernel : kitB "tuple" "tuple" = some true)⟩
end

/-! ### the program: operands, reads, writes, followers, regions -/
abbrev Op := Str × Int
def opD (g : Op) : PyData := .tuple [.str g.1, .int g.2]
def rdOf (gs : List Op) : List PyData := (gs.filter fun g => decide (g.1 = ("reg" : Str))).map fun g => .int g.2
def OpsOk (nm : Str) (D : List PyData) (gs : List PyData) : Prop :=
  (nm = "call" ∧ D[3]? = some (.tuple gs)) ∨ (nm = "return" ∧ D[1]? = some (.tuple gs)) ∨ (nm ≠ "call" ∧ nm ≠ "return" ∧ gs = D.filter isTup)
def wrs : List V := [.str "move", .str "neg", .str "abs", .str "add", .str "sub", .str "mul", .str "div", .str "mod", .str "rem", .str "less", .str "equal", .str "load", .str "get"]
def rss : List V := [.str "neg", .str "abs", .str "add", .str "sub", .str "mul", .str "div", .str "mod", .str "rem", .str "check", .str "call", .str "raise", .str "again", .str "get"]
def lvs : List V := [.str "return", .str "raise", .str "again"]
def WrOk (nm : Str) (D : List PyData) (ws : List PyData) : Prop :=
  (nm = "call" ∧ D[4]? = some (.tuple ws)) ∨ (nm ≠ "call" ∧ inV (.str nm) wrs = true ∧ ∃ d, D[1]? = some (.int d) ∧ ws = [.int d]) ∨ (nm ≠ "call" ∧ inV (.str nm) wrs = false ∧ ws = [])
def mn (x y : Int) : Int := if y < x then y else x
def mx (x y : Int) : Int := if y > x then y else x
def FoOk (nm : Str) (D : List PyData) (ix : Int) (bs : List PyData) : Prop :=
  (inV (.str nm) lvs = true ∧ bs = []) ∨ (inV (.str nm) lvs = false ∧ nm = "jump" ∧ ∃ t, D[1]? = some (.int t) ∧ bs = [.int t]) ∨
  (inV (.str nm) lvs = false ∧ nm ≠ "jump" ∧ nm = "branch" ∧ ∃ t, D[2]? = some (.int t) ∧ t ≠ ix + 1 ∧ bs = [.int (mn t (ix + 1)), .int (mx t (ix + 1))]) ∨
  (inV (.str nm) lvs = false ∧ nm ≠ "jump" ∧ nm = "branch" ∧ ∃ t, D[2]? = some (.int t) ∧ t = ix + 1 ∧ bs = [.int (ix + 1)]) ∨
  (inV (.str nm) lvs = false ∧ nm ≠ "jump" ∧ nm ≠ "branch" ∧ bs = [.int (ix + 1)])
def regD (r : List Int) : PyData := .tuple (r.map .int)
def inR (at' : Int) (r : List Int) : Bool := decide (r.getD 0 0 ≤ at') && decide (at' < r.getD 1 0)
def findR (rs : List (List Int)) (at' : Int) : PyData := match rs.find? (inR at') with
  | some r => regD r
  | none => .none
def spOps (K : PySem.W.Frag) : Sp := fun vs H Q _ => ∃ (v : V) (nm : Str) (ds : List PyData) (gs : List PyData), vs = [v] ∧ DT K H v (.tuple (.str nm :: ds)) ∧ OpsOk nm (.str nm :: ds) gs ∧ ds.length ≤ 100 ∧ ∀ u H', DT K H' u (.tuple gs) → Same H H' → Q u H'
def spRds (K : PySem.W.Frag) : Sp := fun vs H Q _ => ∃ (v : V) (nm : Str) (ds : List PyData) (gs : List Op), vs = [v] ∧ DT K H v (.tuple (.str nm :: ds)) ∧ OpsOk nm (.str nm :: ds) (gs.map opD) ∧ ds.length ≤ 100 ∧ gs.length ≤ 100 ∧ ∀ u H', DT K H' u (.tuple (rdOf gs)) → Same H H' → Q u H'
def spWrs (K : PySem.W.Frag) : Sp := fun vs H Q _ => ∃ (v : V) (nm : Str) (ds : List PyData) (ws : List PyData), vs = [v] ∧ DT K H v (.tuple (.str nm :: ds)) ∧ WrOk nm (.str nm :: ds) ws ∧ ∀ u H', DT K H' u (.tuple ws) → Same H H' → Q u H'
def spCan (K : PySem.W.Frag) : Sp := fun vs H Q _ => ∃ (v : V) (nm : Str) (ds : List PyData), vs = [v] ∧ DT K H v (.tuple (.str nm :: ds)) ∧ Q (.bl (inV (.str nm) rss)) H
def spFol (K : PySem.W.Frag) : Sp := fun vs H Q _ => ∃ (v : V) (nm : Str) (ds : List PyData) (bs : List PyData) (ix : Int), vs = [v, .int ix] ∧ DT K H v (.tuple (.str nm :: ds)) ∧ FoOk nm (.str nm :: ds) ix bs ∧ ∀ u H', DT K H' u (.tuple bs) → Same H H' → Q u H'
def unF (v0 v1 v2 v3 v4 v5 v6 : V) : List (Str × V) := putF "regions" v6 (putF "code" v5 (putF "cells" v4 (putF "registers" v3 (putF "results" v2 (putF "arguments" v1 (putF "parent" v0 []))))))
theorem un_rg (v0 v1 v2 v3 v4 v5 v6 : V) : (unF v0 v1 v2 v3 v4 v5 v6).lookup ("regions" : Str) = some v6 :=
  (lookup_putF "regions" "regions" v6 _).trans (if_pos rfl)
theorem un_ne : ¬ ("code" : Str) = "regions" := by decide +kernel
theorem un_cd (v0 v1 v2 v3 v4 v5 v6 : V) : (unF v0 v1 v2 v3 v4 v5 v6).lookup ("code" : Str) = some v5 :=
  ((lookup_putF "regions" "code" v6 _).trans (if_neg un_ne)).trans ((lookup_putF "code" "code" v5 _).trans (if_pos rfl))
theorem pf_lt {f : Str} {v : V} {fs : List (Str × V)} {n : Nat} (h : fs.length ≤ n) : (putF f v fs).length ≤ n + 1 := Nat.le_trans (length_putF f v fs) (Nat.succ_le_succ h)
def spUnI (C : Addr) : Sp := fun vs H Q _ => ∃ (p dx : Addr) (v0 v1 v2 v3 v4 v5 v6 : V), vs = [.ref p, v0, v1, v2, v3, v4, v5, v6] ∧ H p = some (.ins C dx []) ∧ Q .non (upd H p (.ins C dx (unF v0 v1 v2 v3 v4 v5 v6)))
def spRegOf (K : PySem.W.Frag) (C : Addr) : Sp := fun vs H Q _ => ∃ (p dx : Addr) (v0 v1 v2 v3 v4 v5 : V) (ra : Addr) (xs : List V) (rs : List (List Int)) (ix : Int), vs = [.ref p, .int ix] ∧ H p = some (.ins C dx (unF v0 v1 v2 v3 v4 v5 (.ref ra))) ∧ SqT K H ra xs ∧ DTs K H xs (rs.map regD) ∧ (∀ r ∈ rs, 2 ≤ r.length) ∧ ∀ u, DT K H u (findR rs ix) → Q u H
theorem str_dec {x y : Str} (c : decide (V.str x = V.str y) = true) : x = y := by
  have := of_decide_eq_true c
  injection this
theorem str_dec' {x y : Str} (c : decide (V.str x = V.str y) = false) : x ≠ y := fun e => by
  rw [e] at c
  simp at c
theorem DT.ts {K : PySem.W.Frag} {H : Hp} {v : V} {ds : List PyData} (h : DT K H v (.tuple ds)) : ∃ a xs, v = .ref a ∧ SqT K H a xs ∧ DTs K H xs ds := by
  cases h with
  | tup h r => exact ⟨_, _, rfl, h, r⟩
theorem DT.i {K : PySem.W.Frag} {H : Hp} {v : V} {i : Int} (h : DT K H v (.int i)) : v = .int i := by
  cases h; rfl
theorem DT.s {K : PySem.W.Frag} {H : Hp} {v : V} {i : Str} (h : DT K H v (.str i)) : v = .str i := by
  cases h; rfl
theorem DTs.un {K : PySem.W.Frag} {H : Hp} {xs : List V} {d : PyData} {ds : List PyData} (h : DTs K H xs (d :: ds)) : ∃ v vs, xs = v :: vs ∧ DT K H v d ∧ DTs K H vs ds := by
  cases h with
  | cons k r => exact ⟨_, _, rfl, k, r⟩
theorem DTs.em {K : PySem.W.Frag} {H : Hp} {xs : List V} (h : DTs K H xs []) : xs = [] := by
  cases h; rfl
theorem DT.op {K : PySem.W.Frag} {H : Hp} {v : V} {z : Str} {n : Int} (h : DT K H v (opD (z, n))) : ∃ pb, v = .ref pb ∧ SqT K H pb [.str z, .int n] := by
  obtain ⟨pb, ys, e, hs, hd⟩ := DT.ts (ds := [.str z, .int n]) h
  obtain ⟨v1, y1, e1, k1, r1⟩ := hd.un
  obtain ⟨v2, y2, e2, k2, r2⟩ := r1.un
  rw [e1, e2, k1.s, k2.i, r2.em] at hs
  exact ⟨_, e, hs⟩
/-- the item of a tuple -/
theorem DTs.it {K : PySem.W.Frag} {H : Hp} {xs : List V} {ds : List PyData} (h : DTs K H xs ds) (i : Nat) {d : PyData} (e : ds[i]? = some d) : ∃ v, atI xs (i : Int) = some v ∧ DT K H v d := by
  obtain ⟨v, h1, h2⟩ := h.get e
  exact ⟨v, atI_nat h1, h2⟩
theorem filter_step {α : Type} {D : List α} {i : Nat} {d : α} (p : α → Bool) (h : D[i]? = some d) : (D.take (i + 1)).filter p = (D.take i).filter p ++ (if p d = true then [d] else []) := by
  rw [List.take_succ, h, List.filter_append]
  cases e : p d with
  | true => simp [e]
  | false => simp [e]
theorem ints_get {r : List Int} {i : Nat} (h : i < r.length) : (r.map PyData.int)[i]? = some (.int (r.getD i 0)) := by
  simp [List.getD, h]
section
variable {P : Program} {w : World} {K : PySem.W.Frag} {mg : Str → Option Value} {base : Heap} {a : Ad}
theorem ok_operands (T : Txt K mg a) : FnOk P w K mg base CX0 1 a.f_operands a.d_operands ["instruction"] (spOps K) := by
  refine T.F_operands.ok sc_operands (fun vs H Q E h => ?_) (fun cdv A outer s H vs Q E hr h => ?_)
  · obtain ⟨_, _, _, _, rfl, _⟩ := h; rfl
  · obtain ⟨v, nm, ds, gs, rfl, hv, ho, hl, q⟩ := h
    obtain ⟨pa, xs, rfl, hs, hd⟩ := hv.ts
    have hlx := hd.len
    obtain ⟨v0, e0, d0⟩ := hd.it 0 (d := .str nm) rfl
    cases d0.s
    refine ⟨_, (pss_cons (ps_if (pt_cmpR op_eq (pe_ix ix_tup (pv 0) pe_int (fun _ _ => rfl)) pe_str (nomark _)) (pss_one (ps_ret (pe_ix ix_tup (pv 0) pe_int (fun _ _ => rfl)))) pss_nil)
      (pss_cons (ps_if (pt_cmpR op_eq (pe_ix ix_tup (pv 0) pe_int (fun _ _ => rfl)) pe_str (nomark _)) (pss_one (ps_ret (pe_ix ix_tup (pv 0) pe_int (fun _ _ => rfl)))) pss_nil)
      (pss_one (ps_ret (pe_callTy call_tuple_of (by rfl) T.b_tuple (by decide +kernel) (pa_cons (pe_lc (own := [("part", 1)]) (g := gName 1) rfl sc_operands.nd (pi_tup (pv 0)) (blkOk_by (own := [("part", 1)]) (N := ["instruction", "part"]) (sc := defScope s_operands) (by decide +kernel)) (fun _ _ _ _ _ => pg_name (i := 1) sc_operands.nd rfl (Or.inl rfl)) (fun _ _ _ _ _ => (pts_one (pt_val (pe_callB (call_isiK (K := K) rfl) (by rfl) T.b_isinstance (by decide +kernel) (pa_cons (pv 1) (pa_cons (pe_bltn (v := .ty "tuple") (by rfl) T.b_tuple (by decide +kernel) rfl) pa_nil)))))) (fun _ _ _ _ _ => (pv 1))) pa_nil)))))), ?_⟩
    refine ⟨_, rfl, _, _, _, _, rfl, rfl, hs, e0, rfl, _, rfl, ite3 (fun c => ?_) (fun c => ?_)⟩
    · rcases ho with ⟨_, e⟩ | ⟨n, _⟩ | ⟨n, _⟩
      · obtain ⟨v3, e3, d3⟩ := hd.it 3 e
        exact ⟨_, rfl, _, _, _, _, rfl, rfl, hs, e3, q _ _ d3 (Same.refl H)⟩
      · rw [n] at c; exact absurd c (by decide +kernel)
      · exact absurd (str_dec c) n
    refine ⟨_, rfl, _, _, _, _, rfl, rfl, hs, e0, rfl, _, rfl, ite3 (fun c2 => ?_) (fun c2 => ?_)⟩
    · rcases ho with ⟨n, _⟩ | ⟨_, e⟩ | ⟨_, n, _⟩
      · exact absurd n (str_dec' c)
      · obtain ⟨v3, e3, d3⟩ := hd.it 1 e
        exact ⟨_, rfl, _, _, _, _, rfl, rfl, hs, e3, q _ _ d3 (Same.refl H)⟩
      · exact absurd (str_dec c2) n
    have hg : gs = (PyData.str nm :: ds).filter isTup := by
      rcases ho with ⟨n, _⟩ | ⟨n, _⟩ | ⟨_, _, e⟩
      · exact absurd n (str_dec' c)
      · exact absurd n (str_dec' c2)
      · exact e
    refine ⟨_, rfl, pa, rfl, ⟨_, hs⟩, fun L nL => ?_⟩
    refine lc_tup (K := K) (a := pa) (xs := xs) (fun i H' => Same H H' ∧ ∃ us, H' L = some (.lst us) ∧ us.length ≤ i ∧ DTs K H' us (((PyData.str nm :: ds).take i).filter isTup)) ⟨sN (Same.refl H) nL, [], upd_same, Nat.le_refl _, .nil⟩ (fun i H' _ h => seqT h.1 hs) ?_ ?_
    · rintro i x H' hx ⟨ss, us, hL, hul, hus⟩
      obtain ⟨d, ed, dx⟩ := hd.at hx
      have dx' := dx.keep (KT.same ss)
      obtain ⟨t, ty, kt⟩ := dx'.isT
      have hi : i < xs.length := (List.getElem?_eq_some_iff.mp hx).1
      refine ⟨rfl, ?_⟩
      refine ⟨_, rfl, _, _, _, _, _, rfl, .ty _, ty, kt, _, rfl, ?_⟩
      rw [filter_step isTup ed]
      cases e : isTup d with
      | true =>
        refine iteT ⟨_, rfl, us, hL, (by have := sizeLine_eq; simp at hlx; omega), sUpd ss nL, us ++ [x], upd_same, by simp; omega, ?_⟩
        exact (hus.app (.cons dx' .nil)).keep (KT.put hL)
      | false => exact iteF ⟨ss, us, hL, by omega, by simpa using hus⟩
    · rintro H' ⟨ss, us, hL, hul, hus⟩
      rw [hlx, List.take_length] at hus
      refine ⟨L, us, rfl, .inl ⟨SqL.of hL, fun p np => ?_⟩⟩
      refine q _ _ ?_ (sN ss np)
      rw [hg]
      exact .tup (SqT.of upd_same) (hus.keep (KT.new np))
theorem ok_reads (T : Txt K mg a) : FnOk P w K mg base CX0 2 a.f_reads a.d_reads ["instruction"] (spRds K) := by
  have G_operands : FnOk P w K mg base CX0 1 _ _ _ _ := ok_operands T
  refine T.F_reads.ok sc_reads (fun vs H Q E h => ?_) (fun cdv A outer s H vs Q E hr h => ?_)
  · obtain ⟨_, _, _, _, rfl, _⟩ := h; rfl
  · obtain ⟨v, nm, ds, gs, rfl, hv, ho, hl, hgl, q⟩ := h
    refine ⟨_, (pss_one (ps_ret (pe_callTy call_tuple_of (by rfl) T.b_tuple (by decide +kernel) (pa_cons (pe_lc (own := [("kind", 1), ("number", 2)]) (g := gTup K 2 (gCons (gName 1) (gCons (gName 2) (gNil)))) rfl sc_reads.nd (pi_tup (pe_call G_operands (hr.mono (by decide)) rfl T.g_operands T.k_operands T.bd_operands .nil pass0 (pa_cons (pv 0) pa_nil))) (blkOk_by (own := [("kind", 1), ("number", 2)]) (N := ["instruction", "kind", "number"]) (sc := defScope s_reads) (by decide +kernel)) (fun _ _ _ _ _ => pg_tup rfl (pgs_cons (pg_name (i := 1) sc_reads.nd rfl (Or.inl rfl)) (pgs_cons (pg_name (i := 2) sc_reads.nd rfl (Or.inl rfl)) (pgs_nil)))) (fun _ _ _ _ _ => (pts_one (pt_cmpR op_eq (pv 1) pe_str (nomark _)))) (fun _ _ _ _ _ => (pv 2))) pa_nil)))), ?_⟩
    refine ⟨_, rfl, v, nm, ds, gs.map opD, rfl, hv, ho, hl, fun u H1 hu s1 => ?_⟩
    obtain ⟨pa, xs, rfl, hs, hd⟩ := hu.ts
    have hlx := hd.len
    refine ⟨pa, rfl, ⟨_, hs⟩, fun L nL => ?_⟩
    refine lc_tup (K := K) (a := pa) (xs := xs) (fun i H' => Same H1 H' ∧ ∃ us, H' L = some (.lst us) ∧ us.length ≤ i ∧ DTs K H' us (rdOf (gs.take i))) ⟨sN (Same.refl H1) nL, [], upd_same, Nat.le_refl _, .nil⟩ (fun i H' _ h => seqT h.1 hs) ?_ ?_
    · rintro i x H' hx ⟨ss, us, hL, hul, hus⟩
      obtain ⟨d, ed, dx⟩ := hd.at hx
      rw [List.getElem?_map] at ed
      obtain ⟨⟨z, n⟩, eg, rfl⟩ := Option.map_eq_some_iff.mp ed
      obtain ⟨pb, rfl, hys⟩ := (dx.keep (KT.same ss)).op
      have hi : i < xs.length := (List.getElem?_eq_some_iff.mp hx).1
      refine ⟨_, _, rfl, hys, rfl, _, _, rfl, _, _, rfl, rfl, ?_⟩
      refine ⟨rfl, ?_⟩
      refine ⟨_, rfl, rfl, _, rfl, ?_⟩
      have hr : rdOf (gs.take (i + 1)) = rdOf (gs.take i) ++ (if decide (V.str z = V.str "reg") = true then [.int n] else []) := by
        unfold rdOf
        rw [filter_step _ eg, List.map_append]
        by_cases c : z = "reg"
        · simp [c]
        · have : ¬ V.str z = V.str "reg" := fun e => c (by injection e)
          simp [c, this]
      rw [hr]
      cases e : decide (V.str z = V.str "reg") with
      | true =>
        refine iteT ⟨_, rfl, us, hL, (by have := sizeLine_eq; simp at hlx; omega), sUpd ss nL, us ++ [.int n], upd_same, by simp; omega, ?_⟩
        exact (hus.app (.cons (.int n) .nil)).keep (KT.put hL)
      | false => exact iteF ⟨ss, us, hL, by omega, by simpa using hus⟩
    · rintro H' ⟨ss, us, hL, hul, hus⟩
      rw [hlx, List.length_map, List.take_length] at hus
      refine ⟨L, us, rfl, .inl ⟨SqL.of hL, fun p np => ?_⟩⟩
      exact q _ _ (.tup (SqT.of upd_same) (hus.keep (KT.new np))) (sN (sTr s1 ss) np)
theorem ok_writes (T : Txt K mg a) : FnOk P w K mg base CX0 1 a.f_writes a.d_writes ["instruction"] (spWrs K) := by
  refine T.F_writes.ok sc_writes (fun vs H Q E h => ?_) (fun cdv A outer s H vs Q E hr h => ?_)
  · obtain ⟨_, _, _, _, rfl, _⟩ := h; rfl
  · obtain ⟨v, nm, ds, ws, rfl, hv, ho, q⟩ := h
    obtain ⟨pa, xs, rfl, hs, hd⟩ := hv.ts
    obtain ⟨v0, e0, d0⟩ := hd.it 0 (d := .str nm) rfl
    cases d0.s
    refine ⟨_, (pss_cons (ps_if (pt_cmpR op_eq (pe_ix ix_tup (pv 0) pe_int (fun _ _ => rfl)) pe_str (nomark _)) (pss_one (ps_ret (pe_ix ix_tup (pv 0) pe_int (fun _ _ => rfl)))) pss_nil)
      (pss_one (ps_ret (pe_ifExp (pt_cmpR op_inS (pe_ix ix_tup (pv 0) pe_int (fun _ _ => rfl)) (pe_glob (v := .ref a.c_WRITING) rfl T.g_WRITING rfl) rfl) (pe_tup (pa_cons (pe_ix ix_tup (pv 0) pe_int (fun _ _ => rfl)) pa_nil)) (pe_tup pa_nil))))), ?_⟩
    refine ⟨_, rfl, _, _, _, _, rfl, rfl, hs, e0, rfl, _, rfl, ite3 (fun c => ?_) (fun c => ?_)⟩
    · rcases ho with ⟨_, e⟩ | ⟨n, _⟩ | ⟨n, _⟩
      · obtain ⟨v3, e3, d3⟩ := hd.it 4 e
        exact ⟨_, rfl, _, _, _, _, rfl, rfl, hs, e3, q _ _ d3 (Same.refl H)⟩
      · exact absurd (str_dec c) n
      · exact absurd (str_dec c) n
    refine ⟨_, rfl, _, _, _, _, rfl, rfl, hs, e0, a.c_WRITING, wrs, rfl, .inr (T.q_WRITING H), rfl, by decide +kernel, _, rfl, ite3 (fun c2 => ?_) (fun c2 => ?_)⟩
    · rcases ho with ⟨n, _⟩ | ⟨_, _, d, e, rfl⟩ | ⟨_, n, _⟩
      · exact absurd n (str_dec' c)
      · obtain ⟨v1, e1, d1⟩ := hd.it 1 e
        cases d1.i
        exact ⟨_, rfl, _, _, _, _, rfl, rfl, hs, e1, (by show 1 ≤ sizeLine; decide), fun p np => q _ _ (.tup (SqT.of upd_same) (.cons (.int d) .nil)) (sN (Same.refl H) np)⟩
      · rw [c2] at n; cases n
    · rcases ho with ⟨n, _⟩ | ⟨_, n, _⟩ | ⟨_, _, rfl⟩
      · exact absurd n (str_dec' c)
      · rw [c2] at n; cases n
      · exact ⟨by decide, fun p np => q _ _ (.tup (SqT.of upd_same) .nil) (sN (Same.refl H) np)⟩
theorem ok_can_raise (T : Txt K mg a) : FnOk P w K mg base CX0 1 a.f_can_raise a.d_can_raise ["instruction"] (spCan K) := by
  refine T.F_can_raise.ok sc_can_raise (fun vs H Q E h => ?_) (fun cdv A outer s H vs Q E hr h => ?_)
  · obtain ⟨_, _, _, rfl, _⟩ := h; rfl
  · obtain ⟨v, nm, ds, rfl, hv, q⟩ := h
    obtain ⟨pa, xs, rfl, hs, hd⟩ := hv.ts
    obtain ⟨v0, e0, d0⟩ := hd.it 0 (d := .str nm) rfl
    cases d0.s
    refine ⟨_, (pss_one (ps_ret (pe_cmpR op_inS (pe_ix ix_tup (pv 0) pe_int (fun _ _ => rfl)) (pe_glob (v := .ref a.c_RAISING) rfl T.g_RAISING rfl) rfl))), ?_⟩
    exact ⟨_, rfl, _, _, _, _, rfl, rfl, hs, e0, a.c_RAISING, rss, rfl, .inr (T.q_RAISING H), rfl, by decide +kernel, q⟩
theorem ok_followers (T : Txt K mg a) : FnOk P w K mg base CX0 1 a.f_followers a.d_followers ["instruction", "index"] (spFol K) := by
  refine T.F_followers.ok sc_followers (fun vs H Q E h => ?_) (fun cdv A outer s H vs Q E hr h => ?_)
  · obtain ⟨_, _, _, _, _, rfl, _⟩ := h; rfl
  · obtain ⟨v, nm, ds, bs, ix, rfl, hv, ho, q⟩ := h
    obtain ⟨pa, xs, rfl, hs, hd⟩ := hv.ts
    obtain ⟨v0, e0, d0⟩ := hd.it 0 (d := .str nm) rfl
    cases d0.s
    refine ⟨_, (pss_cons (ps_set (i := 2) sc_followers.nd rfl (Or.inl rfl) (pe_ix ix_tup (pv 0) pe_int (fun _ _ => rfl)))
      (pss_cons (ps_if (pt_cmpR op_inS (pv 2) (pe_glob (v := .ref a.c_LEAVING) rfl T.g_LEAVING rfl) rfl) (pss_one (ps_ret (pe_tup pa_nil))) pss_nil)
      (pss_cons (ps_if (pt_cmpR op_eq (pv 2) pe_str (nomark _)) (pss_one (ps_ret (pe_tup (pa_cons (pe_ix ix_tup (pv 0) pe_int (fun _ _ => rfl)) pa_nil)))) pss_nil)
      (pss_cons (ps_set (i := 3) sc_followers.nd rfl (Or.inl rfl) (pe_op op_add (pv 1) pe_int))
      (pss_cons (ps_if (PW.pt (pw_and (pt_cmpR op_eq (pv 2) pe_str (nomark _)) (pw_and1 (pt_cmpR op_ne (pe_ix ix_tup (pv 0) pe_int (fun _ _ => rfl)) (pv 3) (nomark _))))) (pss_one (ps_ret (pe_tup (pa_cons (pe_callB (call_min2 rfl) (by rfl) T.b_min (by decide +kernel) (pa_cons (pe_ix ix_tup (pv 0) pe_int (fun _ _ => rfl)) (pa_cons (pv 3) pa_nil))) (pa_cons (pe_callB (call_max2 rfl) (by rfl) T.b_max (by decide +kernel) (pa_cons (pe_ix ix_tup (pv 0) pe_int (fun _ _ => rfl)) (pa_cons (pv 3) pa_nil))) pa_nil))))) pss_nil)
      (pss_one (ps_ret (pe_tup (pa_cons (pv 3) pa_nil))))))))), ?_⟩
    refine ⟨_, rfl, _, _, _, _, rfl, rfl, hs, e0, ?_⟩
    refine ⟨_, rfl, a.c_LEAVING, lvs, rfl, .inr (T.q_LEAVING H), rfl, by decide +kernel, _, rfl, ite3 (fun c => ?_) (fun c => ?_)⟩
    · rcases ho with ⟨_, rfl⟩ | ⟨n, _⟩ | ⟨n, _⟩ | ⟨n, _⟩ | ⟨n, _⟩
      · exact ⟨by decide, fun p np => q _ _ (.tup (SqT.of upd_same) .nil) (sN (Same.refl H) np)⟩
      all_goals (rw [c] at n; cases n)
    refine ⟨_, rfl, rfl, _, rfl, ite3 (fun c2 => ?_) (fun c2 => ?_)⟩
    · rcases ho with ⟨n, _⟩ | ⟨_, _, t, e, rfl⟩ | ⟨_, n, _⟩ | ⟨_, n, _⟩ | ⟨_, n, _⟩
      · rw [c] at n; cases n
      · obtain ⟨v1, e1, d1⟩ := hd.it 1 e
        cases d1.i
        exact ⟨_, rfl, _, _, _, _, rfl, rfl, hs, e1, (by show 1 ≤ sizeLine; decide), fun p np => q _ _ (.tup (SqT.of upd_same) (.cons (.int t) .nil)) (sN (Same.refl H) np)⟩
      all_goals exact absurd (str_dec c2) n
    refine ⟨_, rfl, _, _, rfl, rfl, ?_⟩
    have last : (∀ {bs' : List PyData}, bs = bs' → bs' = [.int (ix + 1)] → ∀ p, H p = none → Q (.ref p) (upd H p (.tup [.int (ix + 1)]))) := fun e1 e2 p np => by
      subst e1
      subst e2
      exact q _ _ (.tup (SqT.of upd_same) (.cons (.int _) .nil)) (sN (Same.refl H) np)
    refine ⟨_, rfl, rfl, _, rfl, ite3 (fun c3 => ?_) (fun c3 => ?_)⟩
    · rcases ho with ⟨n, _⟩ | ⟨_, n, _⟩ | ⟨_, _, _, t, e, ht, rfl⟩ | ⟨_, _, _, t, e, ht, rfl⟩ | ⟨_, _, n, _⟩
      · rw [c] at n; cases n
      · exact absurd n (str_dec' c2)
      · obtain ⟨v1, e1, d1⟩ := hd.it 2 e
        cases d1.i
        refine ⟨_, rfl, _, _, _, _, rfl, rfl, hs, e1, _, rfl, rfl, _, rfl, ite3 (fun c4 => ?_) (fun c4 => ?_)⟩
        · refine ⟨_, rfl, _, _, _, _, rfl, rfl, hs, e1, _, rfl, _, _, rfl, _, rfl, _, _, _, _, rfl, rfl, hs, e1, _, rfl, _, _, rfl, (by show 2 ≤ sizeLine; decide), fun p np => ?_⟩
          exact q _ _ (.tup (SqT.of upd_same) (.cons (.int _) (.cons (.int _) .nil))) (sN (Same.refl H) np)
        · exact absurd c4 (by simp [ht])
      · obtain ⟨v1, e1, d1⟩ := hd.it 2 e
        cases d1.i
        refine ⟨_, rfl, _, _, _, _, rfl, rfl, hs, e1, _, rfl, rfl, _, rfl, ite3 (fun c4 => ?_) (fun c4 => ?_)⟩
        · exact absurd c4 (by simp [ht])
        · exact ⟨_, rfl, (by show 1 ≤ sizeLine; decide), fun p np => last rfl rfl p np⟩
      · exact absurd (str_dec c3) n
    · rcases ho with ⟨n, _⟩ | ⟨_, n, _⟩ | ⟨_, _, n, _⟩ | ⟨_, _, n, _⟩ | ⟨_, _, _, e⟩
      · rw [c] at n; cases n
      · exact absurd n (str_dec' c2)
      · exact absurd n (str_dec' c3)
      · exact absurd n (str_dec' c3)
      · exact iteF ⟨_, rfl, (by show 1 ≤ sizeLine; decide), fun p np => last e rfl p np⟩
theorem ok_Unit___init__ (T : Txt K mg a) : FnOk P w K mg base CX0 1 a.f_Unit___init__ a.d_Unit___init__ ["self", "parent", "arguments", "results", "registers", "cells", "code", "regions"] (spUnI a.C_Unit) := by
  refine T.F_Unit___init__.ok sc_Unit___init__ (fun vs H Q E h => ?_) (fun cdv A outer s H vs Q E hr h => ?_)
  · obtain ⟨_, _, _, _, _, _, _, _, _, rfl, _⟩ := h; rfl
  · obtain ⟨p, dx, v0, v1, v2, v3, v4, v5, v6, rfl, hp, q⟩ := h
    refine ⟨_, (pss_cons (ps_fld (pv 0) (pv 1) rfl)
      (pss_cons (ps_fld (pv 0) (pv 2) rfl)
      (pss_cons (ps_fld (pv 0) (pv 3) rfl)
      (pss_cons (ps_fld (pv 0) (pv 4) rfl)
      (pss_cons (ps_fld (pv 0) (pv 5) rfl)
      (pss_cons (ps_fld (pv 0) (pv 6) rfl)
      (pss_one (ps_fld (pv 0) (pv 7) rfl)))))))), ?_⟩
    refine ⟨_, rfl, _, rfl, p, a.C_Unit, dx, _, rfl, hp, T.cl_Unit, T.n_Unit_parent, (by show 0 < 1000; decide), ?_⟩
    refine ⟨_, rfl, _, rfl, p, a.C_Unit, dx, _, rfl, upd_same, T.cl_Unit, T.n_Unit_arguments, (by show 1 < 1000; decide), ?_⟩
    rw [upd_upd]
    refine ⟨_, rfl, _, rfl, p, a.C_Unit, dx, _, rfl, upd_same, T.cl_Unit, T.n_Unit_results, Nat.lt_of_le_of_lt (pf_lt (pf_lt (Nat.le_refl 0))) (by decide : 2 < 1000), ?_⟩
    rw [upd_upd]
    refine ⟨_, rfl, _, rfl, p, a.C_Unit, dx, _, rfl, upd_same, T.cl_Unit, T.n_Unit_registers, Nat.lt_of_le_of_lt (pf_lt (pf_lt (pf_lt (Nat.le_refl 0)))) (by decide : 3 < 1000), ?_⟩
    rw [upd_upd]
    refine ⟨_, rfl, _, rfl, p, a.C_Unit, dx, _, rfl, upd_same, T.cl_Unit, T.n_Unit_cells, Nat.lt_of_le_of_lt (pf_lt (pf_lt (pf_lt (pf_lt (Nat.le_refl 0))))) (by decide : 4 < 1000), ?_⟩
    rw [upd_upd]
    refine ⟨_, rfl, _, rfl, p, a.C_Unit, dx, _, rfl, upd_same, T.cl_Unit, T.n_Unit_code, Nat.lt_of_le_of_lt (pf_lt (pf_lt (pf_lt (pf_lt (pf_lt (Nat.le_refl 0)))))) (by decide : 5 < 1000), ?_⟩
    rw [upd_upd]
    refine ⟨_, rfl, _, rfl, p, a.C_Unit, dx, _, rfl, upd_same, T.cl_Unit, T.n_Unit_regions, Nat.lt_of_le_of_lt (pf_lt (pf_lt (pf_lt (pf_lt (pf_lt (pf_lt (Nat.le_refl 0))))))) (by decide : 6 < 1000), ?_⟩
    rw [upd_upd]
    exact q
end

/-! ### enumerate(zip(a tuple, a list)) -/
namespace EZ
open PySem PySem.Spec PyProof.Rows
/-- a zip object, by its mark of the pair that is out -/
abbrev IsZ (h : Heap) (z TI TO : Addr) (f0 : Value) (f : Bool) : Prop := h.get? z = some { cls := .type "zip", dict := none, data := .fields #[f0, .bool f, .bool false, .ref TI, .ref TO], slots := #[] }
def MarkOk (f0 : Value) : Prop := f0 = .none ∨ ∃ T : Nat, f0 = rawInt (T : Int)
section
variable {P : Program} {w : World} {A : Around} {E : Value → Shared → Prop} {s : Shared} {z TI TO i1 i2 : Addr} {fp1 fp2 : List Addr} {n1 n2 i : Nat} {P1 P2 : Nat → Value → Prop} {St1 St2 : Nat → Heap → Prop} {a1 a2 f0 : Value} {f : Bool}
theorem alive_any {a : Addr} {Q : Option Obj → Shared → Prop} (h : Q (s.heap.get? a) s) : wpAny (model P w) A (loadIfAlive a) Q E s := fun _ _ _ => h
theorem zfree {Q : Bool → Shared → Prop} (hz : IsZ s.heap z TI TO f0 f) (hf : MarkOk f0) (q1 : Q true s) (q2 : ∀ h', IsZ h' z TI TO f0 true → Heap.SameBut z s.heap h' → Q false { s with heap := h' }) :
    wpAny (model P w) A (Builtin.SmallTypes.ownedTupleIsFree (.ref z)) Q E s := by
  unfold Builtin.SmallTypes.ownedTupleIsFree
  refine wpAny_bind (wpAny_field hz rfl (x := f0) rfl ?_)
  rcases hf with e | ⟨T, e⟩
  · subst e; exact wpAny_pure q1
  · subst e
    show wpAny _ _ (loadIfAlive ((T : Int).toNat) >>= _) _ _ _; rw [Int.toNat_natCast]
    refine wpAny_bind (alive_any ?_)
    cases hT : s.heap.get? T with
    | none => simp only [Option.isNone_none, if_true]; exact wpAny_pure q1
    | some oT =>
      simp only [Option.isNone_some, Bool.false_eq_true, if_false]
      refine wpAny_bind (wpAny_field hz rfl (x := .bool f) rfl ?_)
      cases f with
      | true => rw [if_neg (by decide)]; exact wpAny_pure (q2 s.heap hz (Heap.SameBut.refl _ _))
      | false => rw [if_pos (by decide)]; exact wpAny_bind (wpAny_setField_rec hz (by simp) fun h₁ hz₁ hs₁ => wpAny_pure (q2 h₁ hz₁ hs₁))
/-- what a turn of the zip leaves -/
structure ZOut (z TI TO i1 i2 : Addr) (P1 P2 : Nat → Value → Prop) (St1 St2 : Nat → Heap → Prop) (i : Nat) (h : Heap) (x1 x2 : Value) (h' : Heap) : Prop where
  p1 : P1 i x1
  p2 : P2 i x2
  zz : ∃ f0' f', MarkOk f0' ∧ IsZ h' z TI TO f0' f'
  oo : ∃ b1 b2, IsTupOf2 h' TO b1 b2
  s1 : St1 (i + 1) h'
  s2 : St2 (i + 1) h'
  T : IsTupOf2 h' h.objs.size x1 x2
  sz : h'.objs.size = h.objs.size + 1
  k : ∀ c o, c ≠ z → c ≠ TO → c ≠ i1 → c ≠ i2 → h.get? c = some o → h'.get? c = some o
theorem zip_item {Q : Value → Shared → Prop} (S : ZipSep2 z TI TO i1 i2 fp1 fp2) (D1 : Draws P w A i1 fp1 n1 P1 St1) (D2 : Draws P w A i2 fp2 n2 P2 St2)
    (hz : IsZ s.heap z TI TO f0 f) (hf : MarkOk f0) (hTI : IsTupOf2 s.heap TI (.ref i1) (.ref i2)) (hTO : IsTupOf2 s.heap TO a1 a2) (st1 : St1 i s.heap) (st2 : St2 i s.heap) (l1 : i < n1) (l2 : i < n2)
    (hQ : ∀ x1 x2 h' tk, ZOut z TI TO i1 i2 P1 P2 St1 St2 i s.heap x1 x2 h' → Q (.ref s.heap.objs.size) { s with heap := h', toks := tk }) :
    wpAny (model P w) A (Builtin.«zip.__next__» ⟨[.ref z], []⟩) (fun fin s' => ∃ v, fin = .done (.ret v) ∧ Q v s') E s := by
  obtain ⟨hp, g, d, tk0, os⟩ := s
  show wpAny _ _ (field (.ref z) 2 >>= _) _ _ _; refine wpAny_bind (wpAny_field hz rfl (x := .bool false) rfl ?_)
  show wpAny _ _ (field (.ref z) 3 >>= _) _ _ _; refine wpAny_bind (wpAny_field hz rfl (x := .ref TI) rfl ?_); refine wpAny_bind (wpAny_seqItems hTI rfl ?_)
  show wpAny _ _ (Builtin.SmallTypes.ownedTupleIsFree (.ref z) >>= _) _ _ _; refine wpAny_bind (zfree hz hf ?_ fun hA zA sA => ?_)
  · simp only [if_true]
    refine wpAny_bind (wpAny_rule ?_); refine wpAny_bind (wpAny_field hz rfl (x := .ref TO) rfl ?_)
    refine wpAny_bind (wpAny_setField_rec hz (by simp) fun g0 z0 s0 => ?_)
    replace z0 : IsZ g0 z TI TO .ellipsis f := z0; replace s0 : Heap.SameBut z hp g0 := s0
    refine wpAny_bind ?_; simp only [List.zipIdx_cons, List.zipIdx_nil, List.forIn_cons, List.forIn_nil]
    refine wpAny_bind (wpAny_bind (wpAny_onRaise ?_)); show wpAny _ _ (Builtin.SmallTypes.nextOf (.ref i1) >>= _) _ _ ⟨g0, g, d, tk0, os⟩
    refine wpAny_bind (D1.item i _ _ _ l1 (D1.over st1 s0 S.zf1) fun x1 b1 t1 hx1 n1' q1 => wpAny_pure ?_); replace q1 : Heap.SameBut i1 g0 b1 := q1
    have u1 : IsTupOf2 b1 TO a1 a2 := q1.extBut _ _ S.Ti1 (s0.extBut _ _ S.TOz hTO)
    refine wpAny_bind (wpAny_seqItems (s := ⟨b1, g, d, t1, os⟩) u1 rfl ?_); refine wpAny_bind (updateSeq_IsTupOf2 (s := ⟨b1, g, d, t1, os⟩) u1 fun g1 v1 s1 => ?_)
    replace v1 : IsTupOf2 g1 TO x1 a2 := v1; replace s1 : Heap.SameBut TO b1 g1 := s1
    refine wpAny_bind (wpAny_letGo (wpAny_pure ?_)); refine wpAny_bind (wpAny_bind (wpAny_onRaise ?_)); show wpAny _ _ (Builtin.SmallTypes.nextOf (.ref i2) >>= _) _ _ ⟨g1, g, d, t1, os⟩
    refine wpAny_bind (D2.item i _ _ _ l2 (D2.over (D2.over (D2.over st2 s0 S.zf2) q1 S.sep1_2) s1 S.Tf2) fun x2 b2 t2 hx2 n2' q2 => wpAny_pure ?_); replace q2 : Heap.SameBut i2 g1 b2 := q2
    have u2 : IsTupOf2 b2 TO x1 a2 := q2.extBut _ _ S.Ti2 v1
    refine wpAny_bind (wpAny_seqItems (s := ⟨b2, g, d, t2, os⟩) u2 rfl ?_); refine wpAny_bind (updateSeq_IsTupOf2 (s := ⟨b2, g, d, t2, os⟩) u2 fun g2 v2 s2 => ?_)
    replace v2 : IsTupOf2 g2 TO x1 x2 := v2; replace s2 : Heap.SameBut TO b2 g2 := s2
    refine wpAny_bind (wpAny_letGo (wpAny_pure (wpAny_pure ?_))); refine wpAny_bind (wpAny_seqItems (s := ⟨g2, g, d, t2, os⟩) v2 rfl ?_); refine wpAny_bind (wpAny_newTuple ?_)
    have es : g2.objs.size = hp.objs.size := by rw [s2.1, q2.1, s1.1, q1.1, s0.1]
    have zz : IsZ g2 z TI TO .ellipsis f := s2.extBut _ _ S.TOz.symm (q2.extBut _ _ S.zi2 (s1.extBut _ _ S.TOz.symm (q1.extBut _ _ S.zi1 z0)))
    have kk : ∀ c o, c ≠ z → c ≠ TO → c ≠ i1 → c ≠ i2 → hp.get? c = some o → g2.get? c = some o := fun c o cz cT c1 c2 e => s2.extBut _ _ cT (q2.extBut _ _ c2 (s1.extBut _ _ cT (q1.extBut _ _ c1 (s0.extBut _ _ cz e))))
    have j1 : St1 (i + 1) g2 := D1.over (D1.over (D1.over n1' s1 S.Tf1) q2 S.sep2_1) s2 S.Tf1
    have j2 : St2 (i + 1) g2 := D2.over n2' s2 S.Tf2
    have zl : z < g2.objs.size := Heap.lt_size zz
    show wpAny _ _ (Builtin.SmallTypes.ownedTupleHandOut (.ref z) (.ref g2.objs.size) >>= _) _ _ ⟨g2.push { cls := .type "tuple", data := .seq #[x1, x2] }, g, d, t2, os⟩
    refine wpAny_bind ?_; unfold Builtin.SmallTypes.ownedTupleHandOut
    have z6 : IsZ (g2.push { cls := .type "tuple", data := .seq #[x1, x2] }) z TI TO .ellipsis f := Heap.get?_push_of_some _ zz
    refine wpAny_bind (wpAny_setField_rec z6 (by simp) fun h7 z7 s7 => ?_); replace z7 : IsZ h7 z TI TO (rawInt g2.objs.size) f := z7
    refine wpAny_setField_rec z7 (by simp) fun h8 z8 s8 => ?_; replace z8 : IsZ h8 z TI TO (rawInt g2.objs.size) false := z8
    replace s7 : Heap.SameBut z (g2.push { cls := .type "tuple", data := .seq #[x1, x2] }) h7 := s7; replace s8 : Heap.SameBut z h7 h8 := s8
    have up : ∀ c o, c ≠ z → g2.get? c = some o → h8.get? c = some o := fun c o c1 e => s8.extBut _ _ c1 (s7.extBut _ _ c1 (Heap.get?_push_of_some _ e))
    have T8 : IsTupOf2 h8 g2.objs.size x1 x2 := s8.extBut _ _ (Nat.ne_of_gt zl) (s7.extBut _ _ (Nat.ne_of_gt zl) (Heap.get?_push_size _ rfl))
    have e8 : h8.objs.size = g2.objs.size + 1 := by rw [s8.1, s7.1, Heap.size_push]
    rw [es] at T8 e8
    refine wpAny_pure ⟨_, rfl, ?_⟩; show Q (.ref g2.objs.size) ⟨h8, g, d, t2, os⟩; rw [es]
    exact hQ x1 x2 h8 t2 ⟨hx1, hx2, ⟨_, _, .inr ⟨_, rfl⟩, z8⟩, ⟨_, _, up _ _ S.TOz v2⟩, D1.frame _ _ _ j1 fun b hb o e => up b o (fun q => S.zf1 (q ▸ hb)) e, D2.frame _ _ _ j2 fun b hb o e => up b o (fun q => S.zf2 (q ▸ hb)) e, T8, e8, fun c o cz cT c1 c2 e => up c o cz (kk c o cz cT c1 c2 e)⟩
  · simp only [Bool.false_eq_true, if_false]
    replace zA : IsZ hA z TI TO f0 true := zA; replace sA : Heap.SameBut z hp hA := sA
    refine wpAny_bind ?_; rw [← Array.forIn_toList]; simp only [List.forIn_cons, List.forIn_nil]
    refine wpAny_bind (wpAny_bind (wpAny_holding ?_)); show wpAny _ _ (Builtin.SmallTypes.nextOf (.ref i1) >>= _) _ _ ⟨hA, g, d, tk0, os⟩
    refine wpAny_bind (D1.item i _ _ _ l1 (D1.over st1 sA S.zf1) fun x1 b1 t1 hx1 n1' q1 => wpAny_pure ?_); replace q1 : Heap.SameBut i1 hA b1 := q1
    refine wpAny_pure ?_; refine wpAny_bind (wpAny_bind (wpAny_holding ?_)); show wpAny _ _ (Builtin.SmallTypes.nextOf (.ref i2) >>= _) _ _ ⟨b1, g, d, t1, os⟩
    refine wpAny_bind (D2.item i _ _ _ l2 (D2.over (D2.over st2 sA S.zf2) q1 S.sep1_2) fun x2 b2 t2 hx2 n2' q2 => wpAny_pure ?_); replace q2 : Heap.SameBut i2 b1 b2 := q2
    refine wpAny_pure (wpAny_pure ?_); show wpAny _ _ (newTuple [x1, x2] >>= _) _ _ _; refine wpAny_bind (wpAny_newTuple ?_)
    have es : b2.objs.size = hp.objs.size := by rw [q2.1, q1.1, sA.1]
    have up : ∀ c o, b2.get? c = some o → (b2.push { cls := .type "tuple", data := .seq #[x1, x2] }).get? c = some o := fun c o e => Heap.get?_push_of_some _ e
    have kk : ∀ c o, c ≠ z → c ≠ i1 → c ≠ i2 → hp.get? c = some o → b2.get? c = some o := fun c o cz c1 c2 e => q2.extBut _ _ c2 (q1.extBut _ _ c1 (sA.extBut _ _ cz e))
    have T8 : IsTupOf2 (b2.push { cls := .type "tuple", data := .seq #[x1, x2] }) b2.objs.size x1 x2 := Heap.get?_push_size _ rfl
    have e8 : (b2.push { cls := .type "tuple", data := .seq #[x1, x2] }).objs.size = b2.objs.size + 1 := Heap.size_push ..
    rw [es] at T8 e8
    refine wpAny_pure ⟨_, rfl, ?_⟩; show Q (.ref b2.objs.size) _; rw [es]
    have j1 : St1 (i + 1) b2 := D1.over n1' q2 S.sep2_1
    exact hQ x1 x2 _ t2 ⟨hx1, hx2, ⟨_, _, hf, up _ _ (q2.extBut _ _ S.zi2 (q1.extBut _ _ S.zi1 zA))⟩, ⟨_, _, up _ _ (kk _ _ S.TOz S.Ti1 S.Ti2 hTO)⟩, D1.frame _ _ _ j1 fun b hb o e => up b o e, D2.frame _ _ _ n2' fun b hb o e => up b o e, T8, e8, fun c o cz cT c1 c2 e => up c o (kk c o cz c1 c2 e)⟩
theorem zip_end {Q : Fin → Shared → Prop} (S : ZipSep2 z TI TO i1 i2 fp1 fp2) (D1 : Draws P w A i1 fp1 n1 P1 St1)
    (hz : IsZ s.heap z TI TO f0 f) (hf : MarkOk f0) (hTI : IsTupOf2 s.heap TI (.ref i1) (.ref i2)) (st1 : St1 n1 s.heap)
    (hE : ∀ h' e, (∀ c o, c ≠ z → c ≠ i1 → s.heap.get? c = some o → h'.get? c = some o) → (∃ o, h'.get? e = some o ∧ o.cls = .type "StopIteration") → E (.ref e) { s with heap := h' }) :
    wpAny (model P w) A (Builtin.«zip.__next__» ⟨[.ref z], []⟩) Q E s := by
  obtain ⟨hp, g, d, tk0, os⟩ := s
  show wpAny _ _ (field (.ref z) 2 >>= _) _ _ _; refine wpAny_bind (wpAny_field hz rfl (x := .bool false) rfl ?_)
  show wpAny _ _ (field (.ref z) 3 >>= _) _ _ _; refine wpAny_bind (wpAny_field hz rfl (x := .ref TI) rfl ?_); refine wpAny_bind (wpAny_seqItems hTI rfl ?_)
  show wpAny _ _ (Builtin.SmallTypes.ownedTupleIsFree (.ref z) >>= _) _ _ _; refine wpAny_bind (zfree hz hf ?_ fun hA zA sA => ?_)
  · simp only [if_true]
    refine wpAny_bind (wpAny_rule ?_); refine wpAny_bind (wpAny_field hz rfl (x := .ref TO) rfl ?_)
    refine wpAny_bind (wpAny_setField_rec hz (by simp) fun g0 z0 s0 => ?_)
    replace z0 : IsZ g0 z TI TO .ellipsis f := z0; replace s0 : Heap.SameBut z hp g0 := s0
    refine wpAny_bind ?_; simp only [List.zipIdx_cons, List.zipIdx_nil, List.forIn_cons, List.forIn_nil]
    refine wpAny_bind (wpAny_bind (wpAny_onRaise ?_)); show wpAny _ _ (Builtin.SmallTypes.nextOf (.ref i1) >>= _) _ _ ⟨g0, g, d, tk0, os⟩
    refine wpAny_bind (D1.done ⟨g0, g, d, tk0, os⟩ _ _ (D1.over st1 s0 S.zf1) fun q e hq he => ?_)
    replace hq : Heap.ExtBut i1 g0 q := hq; obtain ⟨oe, hoe, hce⟩ := he; replace hoe : q.get? e = some oe := hoe
    have zq : IsZ q z TI TO .ellipsis f := hq _ _ S.zi1 z0
    have ez : e ≠ z := fun x => by subst x; rw [zq] at hoe; cases hoe; simp at hce
    refine wpAny_setField_rec (s := ⟨q, g, d, tk0, os⟩) zq (by simp) fun q' _ hq' => ?_; replace hq' : Heap.SameBut z q q' := hq'
    exact hE q' e (fun c o cz c1 x => hq'.extBut _ _ cz (hq _ _ c1 (s0.extBut _ _ cz x))) ⟨oe, hq'.extBut _ _ ez hoe, hce⟩
  · simp only [Bool.false_eq_true, if_false]
    replace zA : IsZ hA z TI TO f0 true := zA; replace sA : Heap.SameBut z hp hA := sA
    refine wpAny_bind ?_; rw [← Array.forIn_toList]; simp only [List.forIn_cons, List.forIn_nil]
    refine wpAny_bind (wpAny_bind (wpAny_holding ?_)); show wpAny _ _ (Builtin.SmallTypes.nextOf (.ref i1) >>= _) _ _ ⟨hA, g, d, tk0, os⟩
    refine wpAny_bind (D1.done ⟨hA, g, d, tk0, os⟩ _ _ (D1.over st1 sA S.zf1) fun q e hq he => ?_)
    replace hq : Heap.ExtBut i1 hA q := hq
    exact hE q e (fun c o cz c1 x => hq _ _ c1 (sA.extBut _ _ cz x)) he
end
end EZ

namespace EZ
open PySem PySem.Spec PyProof.Rows
section
variable {P : Program} {w : World} {A : Around} {E : Value → Shared → Prop} {s : Shared}
/-- a turn of enumerate over anything that gives the next item -/
theorem enum_item {e it : Addr} {c : Int} {old : Value} {Q : Value → Shared → Prop} (he : IsEnum s.heap e it c old)
    (hin : wpAny (model P w) A (Builtin.SmallTypes.nextOf (.ref it)) (fun x s1 => IsEnum s1.heap e it c old ∧ ∀ h' tk, IsEnumOut h' e it (c + 1) x s1.heap.objs.size → h'.get? s1.heap.objs.size = some { cls := .type "tuple", data := .seq #[.int c tk, x] } → h'.objs.size = s1.heap.objs.size + 1 →
      (∀ b o, b ≠ e → s1.heap.get? b = some o → h'.get? b = some o) → Q (.ref s1.heap.objs.size) { s1 with heap := h', toks := tk + 1 }) E s) :
    wpAny (model P w) A (Builtin.«enumerate.__next__» ⟨[.ref e], []⟩) (fun fin s' => ∃ v, fin = .done (.ret v) ∧ Q v s') E s := by
  show wpAny _ _ (field (.ref e) 2 >>= _) _ _ _; refine wpAny_bind (wpAny_field he rfl (x := .ref it) rfl ?_)
  refine wpAny_bind (wpAny_mono hin (fun x s1 ⟨e1, hQ⟩ => ?_) fun _ _ z => z)
  obtain ⟨hp, g, d, tk, os⟩ := s1
  show wpAny _ _ (field (.ref e) 3 >>= _) _ _ ⟨hp, g, d, tk, os⟩; refine wpAny_bind (wpAny_field e1 rfl (x := rawInt c) rfl ?_)
  show wpAny _ _ (field (.ref e) 4 >>= _) _ _ ⟨hp, g, d, tk, os⟩; refine wpAny_bind (wpAny_field e1 rfl (x := .none) rfl ?_)
  show wpAny _ _ (mkInt c >>= _) _ _ ⟨hp, g, d, tk, os⟩; refine wpAny_bind (wpAny_mkInt ?_)
  show wpAny _ _ (setField (.ref e) 3 (rawInt (c + 1)) >>= _) _ _ ⟨hp, g, d, tk + 1, os⟩; refine wpAny_bind (wpAny_setField_rec e1 (by simp) fun h2 e2 s2 => ?_)
  replace s2 : Heap.SameBut e hp h2 := s2; replace e2 : IsEnum h2 e it (c + 1) old := e2
  show wpAny _ _ (setField (.ref e) 4 .none >>= _) _ _ ⟨h2, g, d, tk + 1, os⟩; refine wpAny_bind (wpAny_setField_rec e2 (by simp) fun h3 e3 s3 => ?_)
  replace s3 : Heap.SameBut e h2 h3 := s3; replace e3 : IsEnum h3 e it (c + 1) old := e3
  show wpAny _ _ (newTuple [.int c tk, x] >>= _) _ _ ⟨h3, g, d, tk + 1, os⟩; refine wpAny_bind (wpAny_newTuple ?_)
  have e4 : IsEnum (h3.push { cls := .type "tuple", data := .seq #[.int c tk, x] }) e it (c + 1) old := Heap.get?_push_of_some _ e3
  have es : h3.objs.size = hp.objs.size := by rw [s3.1, s2.1]
  have el : e < h3.objs.size := Heap.lt_size e3
  have T4 : (h3.push { cls := .type "tuple", data := .seq #[.int c tk, x] }).get? h3.objs.size = some { cls := .type "tuple", data := .seq #[.int c tk, x] } := Heap.get?_push_size _ rfl
  have z4 : (h3.push { cls := .type "tuple", data := .seq #[.int c tk, x] }).objs.size = h3.objs.size + 1 := Heap.size_push ..
  have k4 : ∀ b o, b ≠ e → hp.get? b = some o → (h3.push { cls := .type "tuple", data := .seq #[.int c tk, x] }).get? b = some o := fun b o hb q => Heap.get?_push_of_some _ (s3.extBut b o hb (s2.extBut b o hb q))
  show wpAny _ _ (Builtin.SmallTypes.ownedTupleIsFree (.ref e) >>= _) _ _ ⟨h3.push { cls := .type "tuple", data := .seq #[.int c tk, x] }, g, d, tk + 1, os⟩
  rw [es] at T4 z4 el ⊢
  generalize h3.push { cls := .type "tuple", data := .seq #[.int c tk, x] } = h4 at e4 T4 z4 k4 ⊢
  clear e3 s3 e2 s2 es h3 h2
  refine wpAny_bind ?_; unfold Builtin.SmallTypes.ownedTupleIsFree
  refine wpAny_bind (wpAny_field e4 rfl (x := .none) rfl (wpAny_pure ?_)); simp only [if_true]
  refine wpAny_bind (wpAny_rule ?_); refine wpAny_bind (wpAny_field e4 rfl (x := old) rfl ?_)
  refine wpAny_bind (wpAny_setField_rec e4 (by simp) fun h5 e5 s5 => ?_); replace s5 : Heap.SameBut e h4 h5 := s5; replace e5 : IsEnum h5 e it (c + 1) x := e5
  show wpAny _ _ (Builtin.SmallTypes.ownedTupleHandOut (.ref e) (.ref hp.objs.size) >>= _) _ _ ⟨h5, g, d, tk + 1, os⟩
  refine wpAny_bind ?_; unfold Builtin.SmallTypes.ownedTupleHandOut
  refine wpAny_bind (wpAny_setField_rec e5 (by simp) fun h6 e6 s6 => ?_); replace s6 : Heap.SameBut e h5 h6 := s6; replace e6 : IsEnumOut h6 e it (c + 1) x hp.objs.size := e6
  refine wpAny_setField_rec e6 (by simp) fun h7 e7 s7 => ?_; replace s7 : Heap.SameBut e h6 h7 := s7; replace e7 : IsEnumOut h7 e it (c + 1) x hp.objs.size := e7
  have up : ∀ b o, b ≠ e → h4.get? b = some o → h7.get? b = some o := fun b o hb q => s7.extBut b o hb (s6.extBut b o hb (s5.extBut b o hb q))
  refine wpAny_bind (wpAny_letGo (wpAny_pure ⟨_, rfl, hQ h7 tk e7 (up _ _ (Nat.ne_of_gt el) T4) (by rw [s7.1, s6.1, s5.1, z4]) fun b o hb q => up b o hb (k4 b o hb q)⟩))
theorem pn_enum_item {e it : Addr} {c : Int} {old : Value} {Q : Option Value → Shared → Prop} (he : IsEnum s.heap e it c old)
    (hin : ∀ E' : Value → Shared → Prop, wpAny (model P w) A.in1 (Builtin.SmallTypes.nextOf (.ref it)) (fun x s1 => IsEnum s1.heap e it c old ∧ ∀ h' tk, IsEnumOut h' e it (c + 1) x s1.heap.objs.size → h'.get? s1.heap.objs.size = some { cls := .type "tuple", data := .seq #[.int c tk, x] } → h'.objs.size = s1.heap.objs.size + 1 →
      (∀ b o, b ≠ e → s1.heap.get? b = some o → h'.get? b = some o) → Q (some (.ref s1.heap.objs.size)) { s1 with heap := h', toks := tk + 1 }) E' s) :
    wpAny (model P w) A (pyNext (.ref e)) Q E s := by
  have hT : s.TypeIs (.ref e) "enumerate" := ⟨_, he, rfl⟩
  unfold pyNext
  exact wpAny_bind (wpAny_attempt (wpAny_callSpecial?_slot (name := Str.ofString "__next__") hT F.slot_enumerate_next (wpAny_call_entry F.slot_enumerate_next hT F.entry_enumerate_next
      (enum_item (Q := fun v s' => wpAny _ _ _ _ _ s') he (wpAny_mono (hin _) (fun x s1 ⟨q1, q2⟩ => ⟨q1, fun h' tk y1 y2 y3 y4 => wpAny_pure (q2 h' tk y1 y2 y3 y4)⟩) fun _ _ z => z)) (F.args_enumerate_next_1 _))))
end
end EZ

namespace EZ
open PySem PySem.Spec PyProof.Rows
section
variable {P : Program} {w : World} {A : Around} {E : Value → Shared → Prop} {s : Shared} {z TI TO i1 i2 : Addr} {fp1 fp2 : List Addr} {n1 n2 i : Nat} {P1 P2 : Nat → Value → Prop} {St1 St2 : Nat → Heap → Prop} {a1 a2 f0 : Value} {f : Bool}
/-- the zip, drawn from -/
theorem next_zip_item {Q : Value → Shared → Prop} (S : ZipSep2 z TI TO i1 i2 fp1 fp2) (D1 : Draws P w A.in1 i1 fp1 n1 P1 St1) (D2 : Draws P w A.in1 i2 fp2 n2 P2 St2)
    (hz : IsZ s.heap z TI TO f0 f) (hf : MarkOk f0) (hTI : IsTupOf2 s.heap TI (.ref i1) (.ref i2)) (hTO : IsTupOf2 s.heap TO a1 a2) (st1 : St1 i s.heap) (st2 : St2 i s.heap) (l1 : i < n1) (l2 : i < n2)
    (hQ : ∀ x1 x2 h' tk, ZOut z TI TO i1 i2 P1 P2 St1 St2 i s.heap x1 x2 h' → Q (.ref s.heap.objs.size) { s with heap := h', toks := tk }) : wpAny (model P w) A (Builtin.SmallTypes.nextOf (.ref z)) Q E s := by
  have hT : s.TypeIs (.ref z) "zip" := ⟨_, hz, rfl⟩
  unfold Builtin.SmallTypes.nextOf
  exact wpAny_bind (wpAny_callSpecial?_slot (name := Str.ofString "__next__") hT F.slot_zip_next (wpAny_call_entry F.slot_zip_next hT F.entry_zip_next
    (zip_item (Q := fun v s' => wpAny _ _ _ _ _ s') S D1 D2 hz hf hTI hTO st1 st2 l1 l2 fun x1 x2 h' tk o => wpAny_pure (hQ x1 x2 h' tk o)) (F.args_zip_next_1 _)))
theorem next_zip_end {Q : Value → Shared → Prop} (S : ZipSep2 z TI TO i1 i2 fp1 fp2) (D1 : Draws P w A.in1 i1 fp1 n1 P1 St1)
    (hz : IsZ s.heap z TI TO f0 f) (hf : MarkOk f0) (hTI : IsTupOf2 s.heap TI (.ref i1) (.ref i2)) (st1 : St1 n1 s.heap)
    (hE : ∀ h' e, (∀ c o, c ≠ z → c ≠ i1 → s.heap.get? c = some o → h'.get? c = some o) → (∃ o, h'.get? e = some o ∧ o.cls = .type "StopIteration") → E (.ref e) { s with heap := h' }) : wpAny (model P w) A (Builtin.SmallTypes.nextOf (.ref z)) Q E s := by
  have hT : s.TypeIs (.ref z) "zip" := ⟨_, hz, rfl⟩
  unfold Builtin.SmallTypes.nextOf
  exact wpAny_bind (wpAny_callSpecial?_slot (name := Str.ofString "__next__") hT F.slot_zip_next (wpAny_call_entry F.slot_zip_next hT F.entry_zip_next (zip_end S D1 hz hf hTI st1 hE) (F.args_zip_next_1 _)))
theorem pn_enum_end {e : Addr} {c : Int} {old : Value} {Q : Option Value → Shared → Prop} (S : ZipSep2 z TI TO i1 i2 fp1 fp2) (D1 : Draws P w A.in1.in1 i1 fp1 n1 P1 St1) (he : IsEnum s.heap e z c old)
    (hz : IsZ s.heap z TI TO f0 f) (hf : MarkOk f0) (hTI : IsTupOf2 s.heap TI (.ref i1) (.ref i2)) (st1 : St1 n1 s.heap)
    (hQ : ∀ h', (∀ c o, c ≠ z → c ≠ i1 → s.heap.get? c = some o → h'.get? c = some o) → Q none { s with heap := h' }) : wpAny (model P w) A (pyNext (.ref e)) Q E s := by
  have hT : s.TypeIs (.ref e) "enumerate" := ⟨_, he, rfl⟩
  unfold pyNext
  refine wpAny_bind (wpAny_attempt (wpAny_callSpecial?_slot (name := Str.ofString "__next__") hT F.slot_enumerate_next (wpAny_call_entry F.slot_enumerate_next hT F.entry_enumerate_next ?_ (F.args_enumerate_next_1 _))))
  show wpAny _ _ (field (.ref e) 2 >>= _) _ _ _; refine wpAny_bind (wpAny_field he rfl (x := .ref z) rfl ?_)
  refine wpAny_bind (next_zip_end S D1 hz hf hTI st1 fun h' x hk hx => ?_); obtain ⟨o, ho, hc⟩ := hx
  refine wpAny_bind (wpAny_isInstance (T := "StopIteration") (b := true) ⟨o, ho, hc⟩ isSubtype_stop ?_)
  exact wpAny_pure (hQ _ hk)
end
/-- the tuple at a, the list at b, as they stand at each turn, the items in new pairs -/
def Itez (K : PySem.W.Frag) (a b : Addr) : It :=
  ⟨fun i H => ∃ (xs ys : List V) (x y : V), SqT K H a xs ∧ SqL K H b ys ∧ xs[i]? = some x ∧ ys[i]? = some y,
    fun i H v H' => ∃ T U x y, v = .ref U ∧ H T = none ∧ upd H T (.tup [x, y]) U = none ∧ H' = upd (upd H T (.tup [x, y])) U (.tup [.int (i : Nat), .ref T]) ∧ (∀ xs, SqT K H a xs → xs[i]? = some x) ∧ ∀ ys, SqL K H b ys → ys[i]? = some y,
    fun i H => ∃ xs ys : List V, SqT K H a xs ∧ SqL K H b ys ∧ xs.length = i⟩
/-- the state of the five things -/
def ezS (e z TI TO i1 i2 a b : Addr) (i : Nat) (h : Heap) : Prop :=
  (∃ old, IsEnum h e z ((i : Nat) : Int) old) ∧ (∃ f0 f, MarkOk f0 ∧ IsZ h z TI TO f0 f) ∧ IsTupOf2 h TI (.ref i1) (.ref i2) ∧ (∃ b1 b2, IsTupOf2 h TO b1 b2) ∧ h.IsTupleIter i1 a i ∧ h.IsListIter i2 b i
structure Sep (e z TI TO i1 i2 a b : Addr) : Prop where
  ez : e ≠ z
  eI : e ≠ TI
  eO : e ≠ TO
  e1 : e ≠ i1
  e2 : e ≠ i2
  zI : z ≠ TI
  zO : z ≠ TO
  z1 : z ≠ i1
  z2 : z ≠ i2
  IO : TI ≠ TO
  I1 : TI ≠ i1
  I2 : TI ≠ i2
  O1 : TO ≠ i1
  O2 : TO ≠ i2
  d12 : i1 ≠ i2
  ea : e ≠ a
  za : z ≠ a
  Oa : TO ≠ a
  a1 : a ≠ i1
  a2 : i2 ≠ a
  eb : e ≠ b
  zb : z ≠ b
  Ob : TO ≠ b
  b1 : i1 ≠ b
  b2 : b ≠ i2
theorem turn_ez {P : Program} {w : World} {K : PySem.W.Frag} {elts : List Expr} {kk : Nat} {tpos : Pos} {a b e z TI TO i1 i2 : Addr} (D : Sep e z TI TO i1 i2 a b) :
    Turn P w K (.Tuple elts kk tpos) (Itez K a b) [e, z, TI, TO, i1, i2] e (ezS e z TI TO i1 i2 a b) where
  mem := by simp
  obj := fun i h st c hc => by
    obtain ⟨⟨old, he⟩, ⟨f0, f, _, hz⟩, hTI, ⟨b1, b2, hTO⟩, ⟨o1, e1, _, d1⟩, ⟨o2, e2, _, d2⟩⟩ := st
    have e' : c = e ∨ c = z ∨ c = TI ∨ c = TO ∨ c = i1 ∨ c = i2 := by simpa using hc
    rcases e' with q | q | q | q | q | q
    · rw [q]; exact ⟨_, he, fun v q => nomatch q⟩
    · rw [q]; exact ⟨_, hz, fun v q => nomatch q⟩
    · rw [q]; exact ⟨_, hTI, fun v q => nomatch q⟩
    · rw [q]; exact ⟨_, hTO, fun v q => nomatch q⟩
    · rw [q]; exact ⟨o1, e1, fun v q => by rw [d1] at q; cases q⟩
    · rw [q]; exact ⟨o2, e2, fun v q => by rw [d2] at q; cases q⟩
  keep := fun i h h' st k => by
    obtain ⟨⟨old, he⟩, ⟨f0, f, hf, hz⟩, hTI, ⟨b1, b2, hTO⟩, h1, h2⟩ := st
    exact ⟨⟨old, k e (by simp) _ he⟩, ⟨f0, f, hf, k z (by simp) _ hz⟩, k TI (by simp) _ hTI, ⟨b1, b2, k TO (by simp) _ hTO⟩, h1.at fun o q => k i1 (by simp) o q, h2.at fun o q => k i2 (by simp) o q⟩
  item := by
    intro X hP hw hK hc i pins s σ H E I hf st hg
    subst hP hw hK
    obtain ⟨⟨old, he⟩, ⟨f0, f, hf0, hz⟩, hTI, ⟨b1, b2, hTO⟩, h1, h2⟩ := st
    obtain ⟨xs, ys, x, y, hqx, hqy, hx, hy⟩ := hg
    obtain ⟨its, rv, p, _⟩ := I.tuple hqx
    obtain ⟨its2, rv2, p2, _⟩ := I.list hqy
    obtain ⟨u, hu, ru⟩ := rv.get hx
    obtain ⟨u2, hu2, ru2⟩ := rv2.get hy
    have hh2 : X.A.in1.in1.handled = none := by simp [I.ok.hd hc]
    have lt : ∀ c ∈ [e, z, TI, TO, i1, i2], c < s.heap.objs.size := fun c hcm => by
      have e' : c = e ∨ c = z ∨ c = TI ∨ c = TO ∨ c = i1 ∨ c = i2 := by simpa using hcm
      obtain ⟨o1, e1, _⟩ := id h1; obtain ⟨o2, e2, _⟩ := id h2
      rcases e' with q | q | q | q | q | q
      · rw [q]; exact Heap.lt_size he
      · rw [q]; exact Heap.lt_size hz
      · rw [q]; exact Heap.lt_size hTI
      · rw [q]; exact Heap.lt_size hTO
      · rw [q]; exact Heap.lt_size e1
      · rw [q]; exact Heap.lt_size e2
    have li1 : i < its.toArray.size := by rw [List.size_toArray]; exact (List.getElem?_eq_some_iff.mp hu).1
    have li2 : i < its2.toArray.size := by rw [List.size_toArray]; exact (List.getElem?_eq_some_iff.mp hu2).1
    have S : ZipSep2 z TI TO i1 i2 [i1, a] [i2, b] := ⟨D.zI.symm, D.zO.symm, D.IO, D.I1, by simp, by simp [D.z1, D.za], by simp [D.O1, D.Oa], D.I2, by simp, by simp [D.z2, D.zb], by simp [D.O2, D.Ob], by simp [D.d12, D.b1], by simp [D.d12.symm, D.a2]⟩
    refine pn_enum_item he (fun E' => next_zip_item S (Draws.tuple (A := X.A.in1.in1) hh2 i1 a D.a1 its.toArray) (Draws.list (A := X.A.in1.in1) hh2 i2 b D.b2 its2.toArray) hz hf0 hTI hTO ⟨h1, p⟩ ⟨h2, p2.isList⟩ li1 li2 fun x1 x2 h' tk o => ⟨o.k _ _ D.ez D.eO D.e1 D.e2 he, fun h'' tk2 ho hT hs hk => ?_⟩)
    obtain rfl : x1 = u := by
      have := o.p1
      rw [List.getElem?_toArray, hu] at this
      exact (Option.some.inj this).symm
    obtain rfl : x2 = u2 := by
      have := o.p2
      rw [List.getElem?_toArray, hu2] at this
      exact (Option.some.inj this).symm
    refine ⟨_, rfl, wpAny_letOwnedTupleGo_enum (s := { s with heap := h'', toks := tk2 + 1 }) ho fun h3 he3 sb => ?_⟩
    replace sb : Heap.SameBut e h'' h3 := sb
    have hN := o.sz
    have lN : s.heap.objs.size ≤ h'.objs.size := by rw [hN]; exact Nat.le_succ _
    have kA : ∀ c ob, c ∉ [e, z, TI, TO, i1, i2] → s.heap.get? c = some ob → h'.get? c = some ob := fun c ob hb q => o.k c ob (fun z => hb (by simp [z])) (fun z => hb (by simp [z])) (fun z => hb (by simp [z])) (fun z => hb (by simp [z])) q
    have I1 : Inv X pins σ (upd H s.heap.objs.size (.tup [x, y])) { s with heap := h', toks := tk } :=
      I.turnedNew (ch := [e, z, TI, TO, i1, i2]) kA hf (Nat.le_refl _) ⟨by show 2 ≤ sizeLine; decide, [x1, x2], .cons ru (.cons ru2 .nil), ⟨_, o.T, rfl, _, rfl⟩⟩
    have up : ∀ c ob, c ≠ e → h'.get? c = some ob → h3.get? c = some ob := fun c ob ne q => sb.extBut c ob ne (hk c ob ne q)
    have ne0 : ∀ c ∈ [e, z, TI, TO, i1, i2], c ≠ s.heap.objs.size := fun c hcm => Nat.ne_of_lt (lt c hcm)
    have ne1 : ∀ c ∈ [e, z, TI, TO, i1, i2], c ≠ h'.objs.size := fun c hcm => Nat.ne_of_lt (Nat.lt_of_lt_of_le (lt c hcm) lN)
    have T3 : h3.get? h'.objs.size = some { cls := .type "tuple", data := .seq #[.int ((i : Nat) : Int) tk2, .ref s.heap.objs.size] } := sb.extBut _ _ (ne1 e (by simp)).symm hT
    have hf1 : ∀ c ∈ [e, z, TI, TO, i1, i2], FpOk X pins (upd H s.heap.objs.size (.tup [x, y])) c := fun c hcm => by
      obtain ⟨g0, g1⟩ := hf c hcm
      exact ⟨by rw [upd_ne (ne0 c hcm)]; exact g0, g1⟩
    have I2 : Inv X pins σ (upd (upd H s.heap.objs.size (.tup [x, y])) h'.objs.size (.tup [.int (i : Nat), .ref s.heap.objs.size])) { s with heap := h3, toks := tk2 + 1 } :=
      I1.turnedNew (h' := h3) (t' := tk2 + 1) (ch := [e, z, TI, TO, i1, i2]) (fun c ob hb q => up c ob (fun z => hb (by simp [z])) q) hf1 (Nat.le_refl _) ⟨by show 2 ≤ sizeLine; decide, [.int ((i : Nat) : Int) tk2, .ref s.heap.objs.size], .cons ⟨_, rfl⟩ (.cons rfl .nil), ⟨_, T3, rfl, _, rfl⟩⟩
    refine ⟨.ref h'.objs.size, _, I2, rfl, ⟨s.heap.objs.size, h'.objs.size, x, y, rfl, I.hok.fresh (Nat.le_refl _), I1.hok.fresh (Nat.le_refl _), rfl, fun l hl => ?_, fun l hl => by rw [I.list_inj hl hqy]; exact hy⟩, ?_, fun c hcm => ?_⟩
    · rw [I.tuple_inj hl hqx]; exact hx
    · obtain ⟨f0', f', m', z'⟩ := o.zz
      obtain ⟨b1', b2', O'⟩ := o.oo
      have e1 : ((i + 1 : Nat) : Int) = (i : Int) + 1 := by omega
      refine ⟨⟨_, by rw [e1]; exact he3⟩, ⟨f0', f', m', up _ _ D.ez.symm z'⟩, up _ _ D.eI.symm (o.k _ _ D.zI.symm D.IO D.I1 D.I2 hTI), ⟨b1', b2', up _ _ D.eO.symm O'⟩, o.s1.1.at fun ob q => up _ _ D.e1.symm q, o.s2.1.at fun ob q => up _ _ D.e2.symm q⟩
    · rw [upd_ne (ne1 c hcm), upd_ne (ne0 c hcm)]
      exact (hf c hcm).1
  done := by
    intro X hP hw hK hc i pins s σ H E I hf st hg
    subst hP hw hK
    obtain ⟨⟨old, he⟩, ⟨f0, f, hf0, hz⟩, hTI, ⟨b1, b2, hTO⟩, h1, h2⟩ := st
    obtain ⟨xs, ys, hqx, hqy, hx⟩ := hg
    obtain ⟨its, rv, p, _⟩ := I.tuple hqx
    have hh2 : X.A.in1.in1.handled = none := by simp [I.ok.hd hc]
    have hl := rv.length
    have S : ZipSep2 z TI TO i1 i2 [i1, a] [i2, b] := ⟨D.zI.symm, D.zO.symm, D.IO, D.I1, by simp, by simp [D.z1, D.za], by simp [D.O1, D.Oa], D.I2, by simp, by simp [D.z2, D.zb], by simp [D.O2, D.Ob], by simp [D.d12, D.b1], by simp [D.d12.symm, D.a2]⟩
    have hi : i = its.toArray.size := by rw [List.size_toArray]; omega
    subst hi
    exact pn_enum_end S (Draws.tuple (A := X.A.in1.in1) hh2 i1 a D.a1 its.toArray) he hz hf0 hTI ⟨h1, p⟩ fun h' hk => ⟨rfl, I.turnedL (t' := s.toks) (ch := [e, z, TI, TO, i1, i2]) (fun c o hb q => hk c o (fun w => hb (by simp [w])) (fun w => hb (by simp [w])) q) hf⟩
  self := fun A i s Q E st h => let ⟨⟨_, he⟩, _⟩ := st; wpAny_pyIter_enum he h
end EZ

namespace EZ
open PySem PySem.Spec PyProof.Rows
set_option maxHeartbeats 4000000
abbrev enO (z : Addr) : Obj := { cls := .type "enumerate", data := .fields #[.none, .bool false, .ref z, rawInt 0, .none, .none] }
theorem meets_enum_z {z : Addr} {H : Heap → Prop} (hI : ∀ (P : Program) (w : World) (A : Around) (E : Value → Shared → Prop) (s : Shared) (Q : Value → Shared → Prop), H s.heap → Q (.ref z) s → wpAny (model P w) A (pyIter (.ref z)) Q E s) :
    Meets (Builtin.«enumerate.__new__» ⟨[.type "enumerate", .ref z], []⟩) (fun _ R s => H s.heap ∧ R (.ok (.ret (.ref s.heap.objs.size))) { s with heap := s.heap.push (enO z) }) :=
  .of_wp fun prog w A R s h => by
    obtain ⟨hp, g, d, tk, os⟩ := s; obtain ⟨h1, h⟩ := h; have hsub := sub_enumerate
    have q1 : ∀ {A' : Around} {E : Value → Shared → Prop} {Q : Value → Shared → Prop}, Q (.ref z) ⟨hp, g, d, tk, os⟩ → wpAny (model prog w) A' (pyIter (.ref z)) Q E ⟨hp, g, d, tk, os⟩ := fun q => hI prog w _ _ ⟨hp, g, d, tk, os⟩ _ h1 q
    wp_walk using q1
    refine wpAny_stack_any fun st => wpAny_pure ?_; split
    · rename_i c _ _ _ _ _; cases (c == Value.type "enumerate") <;> (wp_walk using q1; exact ⟨_, rfl, h⟩)
    · wp_walk using q1; exact ⟨_, rfl, h⟩
theorem call_enum_z {P : Program} {w : World} {A : Around} {E : Value → Shared → Prop} {s : Shared} {z TI TO : Addr} {f0 : Value} {Q : Value → Shared → Prop} (hz : IsZip s.heap z TI TO f0)
    (h : ∀ h', IsEnum h' s.heap.objs.size z 0 .none → (∀ b o, s.heap.get? b = some o → h'.get? b = some o) → Q (.ref s.heap.objs.size) { s with heap := h' }) : wpAny (model P w) A (call (.type "enumerate") [.ref z]) Q E s := by
  refine callType_new F.called_enumerate (by decide) (F.typeCall_enumerate_1 _) (F.newCall_enumerate_1 _) (fun obj => F.args_object_init_2 obj _) F.entry_enumerate_new (meets_enum_z (H := fun h => IsZip h z TI TO f0) fun _ _ _ _ _ _ x q => wpAny_pyIter_zip x q) ⟨hz, ?_⟩
  have he : IsEnum (s.heap.push (enO z)) s.heap.objs.size z 0 .none := Heap.get?_push_size _ rfl
  exact ⟨⟨_, he, rfl⟩, h _ he fun b o x => Heap.get?_push_of_some _ x⟩
theorem sep_mk {N a b e : Nat} (ha : a < N) (hb : b < N) (he : e = N + 5) : Sep e (N + 4) (N + 2) (N + 3) N (N + 1) a b := by
  have nn : ∀ {x y : Nat}, x ≠ y → (x : Addr) ≠ (y : Addr) := fun h => h
  exact ⟨nn (by omega), nn (by omega), nn (by omega), nn (by omega), nn (by omega), nn (by omega), nn (by omega), nn (by omega), nn (by omega), nn (by omega), nn (by omega), nn (by omega), nn (by omega), nn (by omega), nn (by omega), nn (by omega), nn (by omega), nn (by omega), nn (by omega), nn (by omega), nn (by omega), nn (by omega), nn (by omega), nn (by omega), nn (by omega)⟩
def iEz (K : PySem.W.Frag) (ta : TA) : TI := fun σ H R => ta σ H fun vs H1 => ∃ a b xs ys, vs = [.ref a, .ref b] ∧ SqT K H1 a xs ∧ SqL K H1 b ys ∧ R (Itez K a b) H1
theorem pi_ez {X : Cx} {e e2 : Expr} {ta : TA} {p p2 pos pos2 tpos : Pos} {elts : List Expr} {kk : Nat} (hg : Gl X "enumerate") (hm : X.mg "enumerate" = none) (hg2 : Gl X "zip") (hm2 : X.mg "zip" = none) (ha : PA X [e, e2] ta)
    (hs : starEach [e, e2] X.env = (false, eval e X.env) :: starEach [e2] X.env := by rfl) (hpl : (backTo pos2 (starEach [e2] X.env)).any (·.1) = false := by rfl) :
    PI X (.Tuple elts kk tpos) (.Call (.Name "enumerate" p) [.Call (.Name "zip" p2) [e, e2] [] pos2] [] pos) (iEz X.K ta) := by
  refine ⟨fun pins s σ H R I h => ?_⟩
  refine Call_ (ld_blt I hg hm boot_enumerate (PyProof.Rows.callWith_type1 (PyProof.Rows.args_cons ?_ rfl) rfl rfl))
  refine Call_ (ld_blt I hg2 hm2 PyProof.Rows.boot_zip (PyProof.Rows.callWith_type1 (thn (ha.run pos2 pins s σ H _ I h) fun us s1 ⟨vs, H1, I1, r1, q1⟩ => ?_) hs hpl))
  obtain ⟨a, b, xs, ys, ex, hqx, hqy, q⟩ := q1; subst ex
  obtain ⟨its, rv, p1, _⟩ := I1.tuple hqx; obtain ⟨its2, rv2, p3, _⟩ := I1.list hqy
  obtain ⟨u1, u2, rfl, c1, c2⟩ := vals2 r1; cases c1; cases c2
  have la : a < s1.heap.objs.size := by obtain ⟨_, q, _⟩ := p1; exact Heap.lt_size q
  have lb : b < s1.heap.objs.size := p3.lt
  refine zip_begins2 (begins_tuple a its.toArray) (begins_list b its2.toArray) p1 p3.isList fun h' hz hTI hTO g1 g2 hsz hk => PyProof.Rows.args_nil ?_
  refine call_enum_z (s := { s1 with heap := h' }) hz fun h2 he hk2 => wpAny_pyIter_enum he ?_
  have kk2 : ∀ c o, s1.heap.get? c = some o → h2.get? c = some o := fun c o x => hk2 c o (hk c o x)
  have I2 : Inv X pins σ H1 { s1 with heap := h2 } := I1.kept (t' := s1.toks) kk2
  have eN : (h'.objs.size : Nat) = s1.heap.objs.size + 5 := hsz
  refine ⟨h'.objs.size, [h'.objs.size, s1.heap.objs.size + 4, s1.heap.objs.size + 2, s1.heap.objs.size + 3, s1.heap.objs.size, s1.heap.objs.size + 1], _, _, H1, rfl, I2, turn_ez (a := a) (b := b) (sep_mk la lb eN),
    ⟨⟨.none, he⟩, ⟨.none, false, .inl rfl, hk2 _ _ hz⟩, hk2 _ _ hTI, ⟨_, _, hk2 _ _ hTO⟩, ⟨_, hk2 _ _ g1, rfl, rfl⟩, ⟨_, hk2 _ _ g2, rfl, rfl⟩⟩, fun c hc => ?_, q⟩
  have hle : s1.heap.objs.size ≤ c := by
    have hc' : c = h'.objs.size ∨ c = s1.heap.objs.size + 4 ∨ c = s1.heap.objs.size + 2 ∨ c = s1.heap.objs.size + 3 ∨ c = s1.heap.objs.size ∨ c = s1.heap.objs.size + 1 := by simpa using hc
    rcases hc' with e | e | e | e | e | e <;> rw [e]
    · rw [eN]; exact Nat.le_add_right _ _
    · exact Nat.le_add_right _ _
    · exact Nat.le_add_right _ _
    · exact Nat.le_add_right _ _
    · exact Nat.le_refl _
    · exact Nat.le_add_right _ _
  exact I1.fpOk hle (I1.hok.fresh hle)
theorem for_ez {K : PySem.W.Frag} {a b : Addr} {xs ys : List V} {g : TG} {tb : TS} {D : Ends} {σ : L2.St} {H : Hp} (hl : xs.length = ys.length) (Pv : Nat → L2.St → Hp → Prop) (h0 : Pv 0 σ H) (hq : ∀ i σ H, i ≤ xs.length → Pv i σ H → SqT K H a xs ∧ SqL K H b ys)
    (hs : ∀ i x y σ H T U, xs[i]? = some x → ys[i]? = some y → Pv i σ H → H T = none → upd H T (.tup [x, y]) U = none → g (.ref U) σ (upd (upd H T (.tup [x, y])) U (.tup [.int (i : Nat), .ref T])) fun σ2 H2 => tb { D with nx := Pv (i + 1), ct := Pv (i + 1), bk := D.nx } σ2 H2) (hd : ∀ σ H, Pv xs.length σ H → D.nx σ H) :
    ∃ W : Nat → Nat → L2.St → Hp → Prop, (∃ m, W 0 m σ H) ∧ ∀ i m σ H, W i m σ H →
      ((Itez K a b).stop i H ∧ D.nx σ H) ∨ ((Itez K a b).go i H ∧ ∃ N : L2.St → Hp → Prop, (∀ σ' H', N σ' H' → ∃ m', m' < m ∧ W (i + 1) m' σ' H') ∧ ∀ x H', (Itez K a b).yld i H x H' → g x σ H' fun σ2 H2 => tb { D with nx := N, ct := N, bk := D.nx } σ2 H2) := by
  refine ⟨fun i m σ H => m = xs.length - i ∧ i ≤ xs.length ∧ Pv i σ H, ⟨xs.length, by simp, Nat.zero_le _, h0⟩, ?_⟩
  rintro i m σ H ⟨rfl, hi, p⟩
  obtain ⟨q1, q2⟩ := hq i σ H hi p
  by_cases hlt : i < xs.length
  · refine .inr ⟨⟨xs, ys, xs[i], ys[i], q1, q2, by simp [hlt], by simp [hl ▸ hlt]⟩, Pv (i + 1), fun σ' H' p' => ⟨xs.length - (i + 1), by omega, rfl, hlt, p'⟩, fun v H' yy => ?_⟩
    obtain ⟨T, U, x, y, e1, nT, nU, e2, y1, y2⟩ := yy
    subst e1; subst e2
    exact hs i x y σ H T U (y1 xs q1) (y2 ys q2) p nT nU
  · have e : i = xs.length := by omega
    subst e
    exact .inl ⟨⟨xs, ys, q1, q2, rfl⟩, hd σ H p⟩
end EZ

/-! ### set(xs), xs a list of ints -/
section
open PySem.Spec PyProof.Rows
variable {P : Program} {w : World} {A : Around} {E : Value → Shared → Prop} {s : Shared}
/-- the empty set as it is laid -/
abbrev e0S (w : World) : Obj := { cls := .type "set", dict := none, data := .set #[] 0 (.fresh 0 0 (!w.params.followText "set-order")) }
abbrev e1S (w : World) (s : Shared) : Shared := { s with heap := s.heap.push (e0S w) }
abbrev OutS (w : World) (ns : List Int) (s : Shared) (h' : Heap) (c : Nat) : Prop := SetR w h' s.heap.objs.size (fun j => decide (j ∈ ns)) c ∧ c ≤ ns.length ∧ ∀ b o, s.heap.get? b = some o → h'.get? b = some o
set_option maxHeartbeats 3200000 in
theorem call_setL {l : Addr} {items : Array Value} (ns : List Int) {Q : Value → Shared → Prop} (hh : A.handled = none) (hl : s.heap.IsList l items) (hi : IntsAre items.toList ns) (hb : ns.length + 1 < scanBound)
    (fin : ∀ (h' : Heap) (tk c : Nat), OutS w ns s h' c → Q (.ref s.heap.objs.size) { s with heap := h', toks := tk }) : wpAny (model P w) A (call (.type "set") [.ref l]) Q E s := by
  have hz : items.size = ns.length := by rw [← IntsAre.length hi] <;> simp
  obtain ⟨c, tl, hmro⟩ := F.called_set.mro; have hmade := F.called_set.made; have hsub := F.called_set.sub
  refine wpAny_call (codeAny_of_tree ?_); show wpAny _ _ (callAny (.type "set") _) _ _ _
  refine wpAny_pure ⟨Code.quiet_builtin _ (by decide +kernel), codeAny_builtin F.entry_type_call ?_⟩; rw [Around.under_plain (weight_type_call_type "set" [.ref l] []) rfl]
  have h1 := F.called_set.notType; have h2 := F.called_set.canCreate; have hct := F.typeCall_set_1 (.ref l)
  repeat (any_goals (first | assumption | wp_step))
  refine codeAny_mono (code_set_led1 (.ref l) (E := E) (Q₁ := fun z s₁ => z = .ref s.heap.objs.size ∧ s₁ = e1S w s) ⟨rfl, rfl⟩) fun r s₁ hr => ?_
  match r, hr with
  | .error e, hr => exact hr
  | .ok .next, hr => exact hr.elim
  | .ok .brk, hr => exact hr.elim
  | .ok .cont, hr => exact hr.elim
  | .ok (.ret z), hr =>
    obtain ⟨rfl, rfl⟩ := hr
    have hS : (e1S w s).heap.get? s.heap.objs.size = some (e0S w) := Heap.get?_push_size _ rfl
    have hT : (e1S w s).TypeIs (.ref s.heap.objs.size) "set" := ⟨_, hS, rfl⟩
    have hli := F.called_set.init.lookup; have hbi := F.called_set.init.bind (.ref s.heap.objs.size)
    repeat (any_goals (first | assumption | wp_step))
    refine codeAny_mono (codeAny_call_builtin (R := wants (fun r s₂ => r = .none ∧ ∃ h' tk c, s₂ = { s with heap := h', toks := tk } ∧ OutS w ns s h' c) E) F.called_set.init.plain F.entry_set_init (check_set_init_1 hT ?_)) fun r₂ s₂ hr₂ => ?_
    · obtain ⟨⟨oc, od, oa, os⟩, hol, hcl, nl, hdl⟩ := hl
      obtain rfl : oc = _ := hcl; obtain rfl : oa = _ := hdl
      have hol' : (e1S w s).heap.get? l = some _ := Heap.get?_push_of_some _ hol
      have q1 := F.sub_list_set; have q2 := F.sub_list_frozenset; have q3 : (Value.type "list" == Value.type "dict") = false := by decide
      have hl1 : (e1S w s).heap.IsList l items := ⟨_, hol', rfl, nl, rfl⟩
      unfold Builtin.«set.__init__» noKeywords Builtin.Frozenset.updateFrom
      generalize hPI : pyIter = PI; wp_walk; subst hPI
      refine wpAny_pyIter_list hl1 ?_; refine wpAny_bind (wpAny_runValue ?_)
      have hlS : l < s.heap.objs.size := Heap.lt_size hol
      have hh3 : A.in1.in1.in1.handled = none := by simp [hh]
      have hz1 : (e1S w s).heap.objs.size = s.heap.objs.size + 1 := Heap.size_push ..
      have hnI : l ≠ (e1S w s).heap.objs.size := by rw [hz1]; exact Nat.ne_of_lt (Nat.lt_succ_of_lt hlS)
      have hnS : s.heap.objs.size ∉ [(e1S w s).heap.objs.size, l] := by rw [hz1]; simp only [List.mem_cons, List.not_mem_nil, or_false, not_or]; exact ⟨Nat.ne_of_lt (Nat.lt_succ_self _), Nat.ne_of_gt hlS⟩
      have hval : ∀ (i : Nat) (v : Value), items[i]? = some v → ∃ k t, ns[i]? = some k ∧ v = .int k t := fun i v hv => by
        obtain ⟨t, e⟩ := IntsAre.int_at hi i v (by simpa using hv)
        have hi' : i < ns.length := by rw [← hz]; exact (Array.getElem?_eq_some_iff.mp hv).1
        exact ⟨ns[i], t, List.getElem?_eq_getElem hi', by rw [e, List.getD_eq_getElem?_getD, List.getElem?_eq_getElem hi'] <;> rfl⟩
      have hget : ((e1S w s).heap.push { cls := .type "list_iterator", data := .fields #[.ref l, .int 0 0] }).get? s.heap.objs.size = some (e0S w) := Heap.get?_push_of_some _ hS
      refine set_update_ints ((Walks.list hh3 _ l hnI items).toS) s.heap.objs.size hnS ns hz hb hval (items.size - 0) 0 _ (by omega) (Nat.zero_le _) ⟨⟨_, Heap.get?_push_size _ rfl, rfl, rfl⟩, hl1.push _⟩ ⟨0, Nat.le_refl 0, setR_new_at hget⟩ fun s' c' hm hc' hS' => ?_
      obtain ⟨h', g2, d', tk', os'⟩ := s'
      obtain rfl : g2 = s.gens := hm.gens; obtain rfl : d' = s.drawn := hm.drawn; obtain rfl : os' = s.os := hm.os
      show wpAny _ _ _ _ _ _
      refine wpAny_pure ?_; show wpAny _ _ (ret Value.none) _ _ _
      rw [hz] at hc'
      refine wpAny_pure ⟨rfl, h', tk', c', rfl, hS', hc', fun b o e => ?_⟩
      have hb0 : b < s.heap.objs.size := Heap.lt_size e
      exact hm.heap b o (by rw [hz1]; simp only [List.mem_cons, List.not_mem_nil, or_false, not_or]; exact ⟨Nat.ne_of_lt hb0, Nat.ne_of_lt (Nat.lt_succ_of_lt hb0)⟩) (Heap.get?_push_of_some _ (Heap.get?_push_of_some _ e))
    · match r₂, hr₂ with
      | .error e, hr₂ => exact hr₂
      | .ok .next, hr₂ => exact hr₂.elim
      | .ok .brk, hr₂ => exact hr₂.elim
      | .ok .cont, hr₂ => exact hr₂.elim
      | .ok (.ret r), hr₂ =>
        obtain ⟨rfl, h', tk, c, rfl, hO⟩ := hr₂
        repeat (any_goals (first | assumption | wp_step))
        exact fin _ _ _ hO
end
section
variable {X : Cx}
def rSetL (K : PySem.W.Frag) (w : World) : List V → Hp → VK → Prop := fun xs H Q => ∃ (l : Addr) (ns : List Int), xs = [.ref l] ∧ SqL K H l (ns.map V.int) ∧ ns.length ≤ 1000 ∧ ∀ p c, H p = none → c ≤ ns.length → Q (.ref p) (upd H p (SetO w p (fun j => decide (j ∈ ns)) c))
theorem cr_setL (hc : X.calm = true) : CallR X (.type "set") (rSetL X.K X.w) := by
  intro pins s σ H xs us Q I r h
  obtain ⟨l, ns, rfl, hl, hn, q⟩ := h
  obtain ⟨its, rv, pl, _⟩ := I.list hl
  rw [Vals.ref1 r]
  refine call_setL ns (I.ok.hd hc) pl.isList (by simpa using ints_of_vals rv) (by unfold scanBound; omega) fun h' tk c ⟨R, hc', k⟩ => ?_
  exact ⟨.ref s.heap.objs.size, _, I.laid (t' := tk) k (Nat.le_refl _) (setO_new R), rfl, q _ c (I.hok.fresh (Nat.le_refl _)) hc'⟩
end

/-! ### zip(a tuple, a list) -/
namespace EZ
open PySem PySem.Spec PyProof.Rows
section
variable {P : Program} {w : World} {A : Around} {E : Value → Shared → Prop} {s : Shared} {z TI TO i1 i2 : Addr} {fp1 fp2 : List Addr} {n1 n2 i : Nat} {P1 P2 : Nat → Value → Prop} {St1 St2 : Nat → Heap → Prop} {a1 a2 f0 : Value} {f : Bool}
theorem pn_zip_item {Q : Option Value → Shared → Prop} (S : ZipSep2 z TI TO i1 i2 fp1 fp2) (D1 : Draws P w A.in1 i1 fp1 n1 P1 St1) (D2 : Draws P w A.in1 i2 fp2 n2 P2 St2)
    (hz : IsZ s.heap z TI TO f0 f) (hf : MarkOk f0) (hTI : IsTupOf2 s.heap TI (.ref i1) (.ref i2)) (hTO : IsTupOf2 s.heap TO a1 a2) (st1 : St1 i s.heap) (st2 : St2 i s.heap) (l1 : i < n1) (l2 : i < n2)
    (hQ : ∀ x1 x2 h' tk, ZOut z TI TO i1 i2 P1 P2 St1 St2 i s.heap x1 x2 h' → Q (some (.ref s.heap.objs.size)) { s with heap := h', toks := tk }) : wpAny (model P w) A (pyNext (.ref z)) Q E s := by
  have hT : s.TypeIs (.ref z) "zip" := ⟨_, hz, rfl⟩
  unfold pyNext
  exact wpAny_bind (wpAny_attempt (wpAny_callSpecial?_slot (name := Str.ofString "__next__") hT F.slot_zip_next (wpAny_call_entry F.slot_zip_next hT F.entry_zip_next
    (zip_item (Q := fun v s' => wpAny _ _ _ _ _ s') S D1 D2 hz hf hTI hTO st1 st2 l1 l2 fun x1 x2 h' tk o => wpAny_pure (hQ x1 x2 h' tk o)) (F.args_zip_next_1 _))))
theorem pn_zip_end {Q : Option Value → Shared → Prop} (S : ZipSep2 z TI TO i1 i2 fp1 fp2) (D1 : Draws P w A.in1 i1 fp1 n1 P1 St1)
    (hz : IsZ s.heap z TI TO f0 f) (hf : MarkOk f0) (hTI : IsTupOf2 s.heap TI (.ref i1) (.ref i2)) (st1 : St1 n1 s.heap)
    (hQ : ∀ h', (∀ c o, c ≠ z → c ≠ i1 → s.heap.get? c = some o → h'.get? c = some o) → Q none { s with heap := h' }) : wpAny (model P w) A (pyNext (.ref z)) Q E s := by
  have hT : s.TypeIs (.ref z) "zip" := ⟨_, hz, rfl⟩
  unfold pyNext
  refine wpAny_bind (wpAny_attempt (wpAny_callSpecial?_slot (name := Str.ofString "__next__") hT F.slot_zip_next (wpAny_call_entry F.slot_zip_next hT F.entry_zip_next
    (zip_end S D1 hz hf hTI st1 fun h' x hk hx => ?_) (F.args_zip_next_1 _))))
  obtain ⟨o, ho, hc⟩ := hx
  refine wpAny_bind (wpAny_isInstance (T := "StopIteration") (b := true) ⟨o, ho, hc⟩ isSubtype_stop ?_)
  exact wpAny_pure (hQ _ hk)
theorem go_zip_any {elts : List Expr} {x1} {pos : Pos} {T : Addr} {Q : Unit → Shared → Prop} (hz : IsZ s.heap z TI TO f0 f) (hf : MarkOk f0)
    (hQ : ∀ h' f0', MarkOk f0' → IsZ h' z TI TO f0' f → Heap.SameBut z s.heap h' → Q () { s with heap := h' }) :
    wpAny (model P w) A (letOwnedTupleGo (.Tuple elts x1 pos) (.ref z) (.ref T)) Q E s := by
  unfold letOwnedTupleGo
  refine wpAny_bind (wpAny_load hz ?_)
  show wpAny _ _ (if (["enumerate", "zip", "dict_itemiterator", "dict_reverseitemiterator", "odict_iterator", "itertools.zip_longest", "itertools.pairwise"].contains "zip" &&
      (#[f0, .bool f, .bool false, .ref TI, .ref TO] : Array Value)[0]? == some (rawInt T)) = true then _ else _) Q E s
  split
  · refine wpAny_bind (wpAny_rule ?_)
    show wpAny _ _ (setField (.ref z) 0 .none) Q E s
    exact wpAny_setField_rec hz (by simp) fun h' hz' hs' => hQ h' .none (.inl rfl) hz' hs'
  · exact wpAny_pure (hQ s.heap f0 hf hz (Heap.SameBut.refl _ _))
theorem iter_zip_any {Q : Value → Shared → Prop} (hz : IsZ s.heap z TI TO f0 f) (h : Q (.ref z) s) : wpAny (model P w) A (pyIter (.ref z)) Q E s := by
  have hT : s.TypeIs (.ref z) "zip" := ⟨_, hz, rfl⟩
  refine wpAny_pyIter_slot hT F.slot_zip_iter (wpAny_call_entry F.slot_zip_iter hT F.entry_zip_iter ?_ (F.args_zip_iter_1 _))
  show wpAny _ _ (ret (.ref z)) _ _ s
  exact wpAny_pure ⟨_, rfl, "zip", _, hT, F.slot_zip_next.lookup, h⟩
end
def Itzl (K : PySem.W.Frag) (a b : Addr) : It :=
  ⟨fun i H => ∃ (xs ys : List V) (x y : V), SqT K H a xs ∧ SqL K H b ys ∧ xs[i]? = some x ∧ ys[i]? = some y,
    fun i H v H' => ∃ T x y, v = .ref T ∧ H T = none ∧ H' = upd H T (.tup [x, y]) ∧ (∀ xs, SqT K H a xs → xs[i]? = some x) ∧ ∀ ys, SqL K H b ys → ys[i]? = some y,
    fun i H => ∃ xs ys : List V, SqT K H a xs ∧ SqL K H b ys ∧ xs.length = i⟩
def zlS (z TI TO i1 i2 a b : Addr) (i : Nat) (h : Heap) : Prop :=
  (∃ f0 f, MarkOk f0 ∧ IsZ h z TI TO f0 f) ∧ IsTupOf2 h TI (.ref i1) (.ref i2) ∧ (∃ b1 b2, IsTupOf2 h TO b1 b2) ∧ h.IsTupleIter i1 a i ∧ h.IsListIter i2 b i
theorem turn_zl {P : Program} {w : World} {K : PySem.W.Frag} {elts : List Expr} {kk : Nat} {tpos : Pos} {a b e z TI TO i1 i2 : Addr} (D : Sep e z TI TO i1 i2 a b) :
    Turn P w K (.Tuple elts kk tpos) (Itzl K a b) [z, TI, TO, i1, i2] z (zlS z TI TO i1 i2 a b) where
  mem := by simp
  obj := fun i h st c hc => by
    obtain ⟨⟨f0, f, _, hz⟩, hTI, ⟨b1, b2, hTO⟩, ⟨o1, e1, _, d1⟩, ⟨o2, e2, _, d2⟩⟩ := st
    have e' : c = z ∨ c = TI ∨ c = TO ∨ c = i1 ∨ c = i2 := by simpa using hc
    rcases e' with q | q | q | q | q
    · rw [q]; exact ⟨_, hz, fun v q => nomatch q⟩
    · rw [q]; exact ⟨_, hTI, fun v q => nomatch q⟩
    · rw [q]; exact ⟨_, hTO, fun v q => nomatch q⟩
    · rw [q]; exact ⟨o1, e1, fun v q => by rw [d1] at q; cases q⟩
    · rw [q]; exact ⟨o2, e2, fun v q => by rw [d2] at q; cases q⟩
  keep := fun i h h' st k => by
    obtain ⟨⟨f0, f, hf, hz⟩, hTI, ⟨b1, b2, hTO⟩, h1, h2⟩ := st
    exact ⟨⟨f0, f, hf, k z (by simp) _ hz⟩, k TI (by simp) _ hTI, ⟨b1, b2, k TO (by simp) _ hTO⟩, h1.at fun o q => k i1 (by simp) o q, h2.at fun o q => k i2 (by simp) o q⟩
  item := by
    intro X hP hw hK hc i pins s σ H E I hf st hg
    subst hP hw hK
    obtain ⟨⟨f0, f, hf0, hz⟩, hTI, ⟨b1, b2, hTO⟩, h1, h2⟩ := st
    obtain ⟨xs, ys, x, y, hqx, hqy, hx, hy⟩ := hg
    obtain ⟨its, rv, p, _⟩ := I.tuple hqx
    obtain ⟨its2, rv2, p2, _⟩ := I.list hqy
    obtain ⟨u, hu, ru⟩ := rv.get hx
    obtain ⟨u2, hu2, ru2⟩ := rv2.get hy
    have hh2 : X.A.in1.handled = none := by simp [I.ok.hd hc]
    have lt : ∀ c ∈ [z, TI, TO, i1, i2], c < s.heap.objs.size := fun c hcm => by
      have e' : c = z ∨ c = TI ∨ c = TO ∨ c = i1 ∨ c = i2 := by simpa using hcm
      obtain ⟨o1, e1, _⟩ := id h1; obtain ⟨o2, e2, _⟩ := id h2
      rcases e' with q | q | q | q | q
      · rw [q]; exact Heap.lt_size hz
      · rw [q]; exact Heap.lt_size hTI
      · rw [q]; exact Heap.lt_size hTO
      · rw [q]; exact Heap.lt_size e1
      · rw [q]; exact Heap.lt_size e2
    have li1 : i < its.toArray.size := by rw [List.size_toArray]; exact (List.getElem?_eq_some_iff.mp hu).1
    have li2 : i < its2.toArray.size := by rw [List.size_toArray]; exact (List.getElem?_eq_some_iff.mp hu2).1
    have S : ZipSep2 z TI TO i1 i2 [i1, a] [i2, b] := ⟨D.zI.symm, D.zO.symm, D.IO, D.I1, by simp, by simp [D.z1, D.za], by simp [D.O1, D.Oa], D.I2, by simp, by simp [D.z2, D.zb], by simp [D.O2, D.Ob], by simp [D.d12, D.b1], by simp [D.d12.symm, D.a2]⟩
    refine pn_zip_item S (Draws.tuple (A := X.A.in1) hh2 i1 a D.a1 its.toArray) (Draws.list (A := X.A.in1) hh2 i2 b D.b2 its2.toArray) hz hf0 hTI hTO ⟨h1, p⟩ ⟨h2, p2.isList⟩ li1 li2 fun x1 x2 h' tk o => ?_
    obtain rfl : x1 = u := by
      have := o.p1
      rw [List.getElem?_toArray, hu] at this
      exact (Option.some.inj this).symm
    obtain rfl : x2 = u2 := by
      have := o.p2
      rw [List.getElem?_toArray, hu2] at this
      exact (Option.some.inj this).symm
    obtain ⟨g0, g, gm, gz⟩ := o.zz
    refine ⟨_, rfl, go_zip_any (s := { s with heap := h', toks := tk }) gz gm fun h3 k0 km kz sb => ?_⟩
    replace sb : Heap.SameBut z h' h3 := sb
    have hN := o.sz
    have ne0 : ∀ c ∈ [z, TI, TO, i1, i2], c ≠ s.heap.objs.size := fun c hcm => Nat.ne_of_lt (lt c hcm)
    have up : ∀ c ob, c ≠ z → h'.get? c = some ob → h3.get? c = some ob := fun c ob ne q => sb.extBut c ob ne q
    have I1 : Inv X pins σ (upd H s.heap.objs.size (.tup [x, y])) { s with heap := h3, toks := tk } :=
      I.turnedNew (ch := [z, TI, TO, i1, i2]) (fun c ob hb q => up c ob (fun z => hb (by simp [z])) (o.k c ob (fun z => hb (by simp [z])) (fun z => hb (by simp [z])) (fun z => hb (by simp [z])) (fun z => hb (by simp [z])) q)) hf (Nat.le_refl _) ⟨by show 2 ≤ sizeLine; decide, [x1, x2], .cons ru (.cons ru2 .nil), ⟨_, up _ _ (ne0 z (by simp)).symm o.T, rfl, _, rfl⟩⟩
    refine ⟨.ref s.heap.objs.size, _, I1, rfl, ⟨s.heap.objs.size, x, y, rfl, I.hok.fresh (Nat.le_refl _), rfl, fun l hl => ?_, fun l hl => by rw [I.list_inj hl hqy]; exact hy⟩, ?_, fun c hcm => ?_⟩
    · rw [I.tuple_inj hl hqx]; exact hx
    · obtain ⟨b1', b2', O'⟩ := o.oo
      exact ⟨⟨k0, g, km, kz⟩, up _ _ D.zI.symm (o.k _ _ D.zI.symm D.IO D.I1 D.I2 hTI), ⟨b1', b2', up _ _ D.zO.symm O'⟩, o.s1.1.at fun ob q => up _ _ D.z1.symm q, o.s2.1.at fun ob q => up _ _ D.z2.symm q⟩
    · rw [upd_ne (ne0 c hcm)]
      exact (hf c hcm).1
  done := by
    intro X hP hw hK hc i pins s σ H E I hf st hg
    subst hP hw hK
    obtain ⟨⟨f0, f, hf0, hz⟩, hTI, ⟨b1, b2, hTO⟩, h1, h2⟩ := st
    obtain ⟨xs, ys, hqx, hqy, hx⟩ := hg
    obtain ⟨its, rv, p, _⟩ := I.tuple hqx
    have hh2 : X.A.in1.handled = none := by simp [I.ok.hd hc]
    have hl := rv.length
    have S : ZipSep2 z TI TO i1 i2 [i1, a] [i2, b] := ⟨D.zI.symm, D.zO.symm, D.IO, D.I1, by simp, by simp [D.z1, D.za], by simp [D.O1, D.Oa], D.I2, by simp, by simp [D.z2, D.zb], by simp [D.O2, D.Ob], by simp [D.d12, D.b1], by simp [D.d12.symm, D.a2]⟩
    have hi : i = its.toArray.size := by rw [List.size_toArray]; omega
    subst hi
    exact pn_zip_end S (Draws.tuple (A := X.A.in1) hh2 i1 a D.a1 its.toArray) hz hf0 hTI ⟨h1, p⟩ fun h' hk => ⟨rfl, I.turnedL (t' := s.toks) (ch := [z, TI, TO, i1, i2]) (fun c o hb q => hk c o (fun w => hb (by simp [w])) (fun w => hb (by simp [w])) q) hf⟩
  self := fun A i s Q E st h => let ⟨⟨_, _, _, hz⟩, _⟩ := st; iter_zip_any hz h
def iZl (K : PySem.W.Frag) (ta : TA) : TI := fun σ H R => ta σ H fun vs H1 => ∃ a b xs ys, vs = [.ref a, .ref b] ∧ SqT K H1 a xs ∧ SqL K H1 b ys ∧ R (Itzl K a b) H1
theorem pi_zl {X : Cx} {e e2 : Expr} {ta : TA} {p2 pos2 tpos : Pos} {elts : List Expr} {kk : Nat} (hg2 : Gl X "zip") (hm2 : X.mg "zip" = none) (ha : PA X [e, e2] ta)
    (hs : starEach [e, e2] X.env = (false, eval e X.env) :: starEach [e2] X.env := by rfl) (hpl : (backTo pos2 (starEach [e2] X.env)).any (·.1) = false := by rfl) :
    PI X (.Tuple elts kk tpos) (.Call (.Name "zip" p2) [e, e2] [] pos2) (iZl X.K ta) := by
  refine ⟨fun pins s σ H R I h => ?_⟩
  refine Call_ (ld_blt I hg2 hm2 PyProof.Rows.boot_zip (PyProof.Rows.callWith_type1 (thn (ha.run pos2 pins s σ H _ I h) fun us s1 ⟨vs, H1, I1, r1, q1⟩ => ?_) hs hpl))
  obtain ⟨a, b, xs, ys, ex, hqx, hqy, q⟩ := q1; subst ex
  obtain ⟨its, rv, p1, _⟩ := I1.tuple hqx; obtain ⟨its2, rv2, p3, _⟩ := I1.list hqy
  obtain ⟨u1, u2, rfl, c1, c2⟩ := vals2 r1; cases c1; cases c2
  have la : a < s1.heap.objs.size := by obtain ⟨_, q, _⟩ := p1; exact Heap.lt_size q
  have lb : b < s1.heap.objs.size := p3.lt
  refine zip_begins2 (begins_tuple a its.toArray) (begins_list b its2.toArray) p1 p3.isList fun h' hz hTI hTO g1 g2 hsz hk => ?_
  refine iter_zip_any (s := { s1 with heap := h' }) hz ?_
  have I2 : Inv X pins σ H1 { s1 with heap := h' } := I1.kept (t' := s1.toks) hk
  have eN : (h'.objs.size : Nat) = s1.heap.objs.size + 5 := hsz
  refine ⟨s1.heap.objs.size + 4, [s1.heap.objs.size + 4, s1.heap.objs.size + 2, s1.heap.objs.size + 3, s1.heap.objs.size, s1.heap.objs.size + 1], _, _, H1, rfl, I2, turn_zl (a := a) (b := b) (sep_mk la lb eN),
    ⟨⟨.none, false, .inl rfl, hz⟩, hTI, ⟨_, _, hTO⟩, ⟨_, g1, rfl, rfl⟩, ⟨_, g2, rfl, rfl⟩⟩, fun c hc => ?_, q⟩
  have hle : s1.heap.objs.size ≤ c := by
    have hc' : c = s1.heap.objs.size + 4 ∨ c = s1.heap.objs.size + 2 ∨ c = s1.heap.objs.size + 3 ∨ c = s1.heap.objs.size ∨ c = s1.heap.objs.size + 1 := by simpa using hc
    rcases hc' with e | e | e | e | e <;> rw [e]
    · exact Nat.le_add_right _ _
    · exact Nat.le_add_right _ _
    · exact Nat.le_add_right _ _
    · exact Nat.le_refl _
    · exact Nat.le_add_right _ _
  exact I1.fpOk hle (I1.hok.fresh hle)
theorem walk_zl {K : PySem.W.Frag} {a b : Addr} {xs ys : List V} (hl : xs.length = ys.length) : Walk (Itzl K a b) xs.length (fun H => SqT K H a xs ∧ SqL K H b ys) (fun i H v H' => ∃ T x y, v = .ref T ∧ H T = none ∧ H' = upd H T (.tup [x, y]) ∧ xs[i]? = some x ∧ ys[i]? = some y) :=
  ⟨fun i _ hi q => ⟨xs, ys, xs[i], ys[i]'(by omega), q.1, q.2, by simp [hi], by simp [hl ▸ hi]⟩, fun _ q => ⟨xs, ys, q.1, q.2, rfl⟩, fun i H v H' hi q ⟨T, x, y, e1, n, e2, y1, y2⟩ => ⟨T, x, y, e1, n, e2, y1 xs q.1, y2 ys q.2⟩⟩
end EZ

/-! ### the regions that take -/
/-- T: taken. Each place leads to a later one, with none free between; a free one leads to itself -/
structure UF (n : Nat) (T : Nat → Prop) (o : List Nat) : Prop where
  len : o.length = n + 1
  at' : ∀ k, k ≤ n → ∃ v, o[k]? = some v ∧ k ≤ v ∧ v ≤ n ∧ (v = k ↔ (k = n ∨ ¬ T k)) ∧ ∀ m, k ≤ m → m < v → T m
abbrev oV (o : List Nat) : List V := o.map fun (x : Nat) => V.int (x : Int)
theorem oV_at {o : List Nat} {k v : Nat} (h : o[k]? = some v) : atI (oV o) (k : Int) = some (.int (v : Int)) := atI_nat (by simp [h])
theorem oV_set {o : List Nat} {k v : Nat} : (oV o).set k (.int (v : Int)) = oV (o.set k v) := by
  unfold oV
  rw [List.map_set]
def spFree : Sp := fun vs H Q _ => ∃ (l : Addr) (o : List Nat) (n : Nat) (T : Nat → Prop) (ix : Nat), vs = [.ref l, .int (ix : Int)] ∧ H l = some (.lst (oV o)) ∧ UF n T o ∧ ix ≤ n ∧
  ∀ (o' : List Nat) (j : Nat) (H' : Hp), UF n T o' → ix ≤ j → j ≤ n → (j = n ∨ ¬ T j) → (∀ m, ix ≤ m → m < j → T m) → H' l = some (.lst (oV o')) → (∀ b u, H b = some u → b ≠ l → H' b = some u) → Q (.int (j : Int)) H'
theorem UF.set {n k v : Nat} {T : Nat → Prop} {o : List Nat} (u : UF n T o) (hk : k ≤ n) (h1 : k ≤ v) (h2 : v ≤ n) (h3 : v = k ↔ (k = n ∨ ¬ T k)) (h4 : ∀ m, k ≤ m → m < v → T m) : UF n T (o.set k v) := by
  refine ⟨by simp [u.len], fun j hj => ?_⟩
  by_cases e : j = k
  · subst e
    exact ⟨v, List.getElem?_set_self (by rw [u.len]; omega), h1, h2, h3, h4⟩
  · obtain ⟨w, q⟩ := u.at' j hj
    refine ⟨w, ?_, q.2⟩
    rw [List.getElem?_set_ne (Ne.symm e)]
    exact q.1
theorem ixN_nat {n k : Nat} (h : k < n) : ixN n (k : Int) = some k := by
  unfold ixN
  simp
  omega
section
variable {P : Program} {w : World} {K : PySem.W.Frag} {mg : Str → Option Value} {base : Heap} {a : Ad}
theorem ok_first_free_flow (T : Txt K mg a) : FnOk P w K mg base CX0 1 a.f_first_free_flow a.d_first_free_flow ["onward", "index"] spFree := by
  refine T.F_first_free_flow.ok sc_first_free_flow (fun vs H Q E h => ?_) (fun cdv A outer s H vs Q E hr h => ?_)
  · obtain ⟨_, _, _, _, _, rfl, _⟩ := h; rfl
  · obtain ⟨l, o, n, Tk, ix, rfl, hl, u, hix, q⟩ := h
    refine ⟨_, (pss_cons (ps_while PassesOwn.never (pt_cmpR op_ne (pe_ix ix_list (pv 0) (pv 1) (fun _ _ => rfl)) (pv 1) (nomark _)) (pss_cons (ps_asg (pe_ix ix_list (pv 0) (pe_ix ix_list (pv 0) (pv 1) (fun _ _ => rfl)) (fun _ _ => rfl)) (pg_sub (pv 0) (pv 1) set_list))
      (pss_one (ps_set (i := 1) sc_first_free_flow.nd rfl (Or.inl rfl) (pe_ix ix_list (pv 0) (pv 1) (fun _ _ => rfl))))))
      (pss_one (ps_ret (pv 1)))), ?_⟩
    refine ⟨fun m σ H' => ∃ (o' : List Nat) (j : Nat), m = n - j ∧ σ = [some (.ref l), some (.int (j : Int))] ∧ H' l = some (.lst (oV o')) ∧ UF n Tk o' ∧ ix ≤ j ∧ j ≤ n ∧ (∀ m, ix ≤ m → m < j → Tk m) ∧ ∀ b u, H b = some u → b ≠ l → H' b = some u,
      ⟨_, o, ix, rfl, rfl, hl, u, Nat.le_refl _, hix, (fun m h1 h2 => absurd h1 (by omega)), fun _ _ e _ => e⟩, ?_⟩
    · rintro mm σ H' ⟨o', j, rfl, rfl, hl', u', h1, h2, h3, fr⟩
      obtain ⟨v, e1, v1, v2, v3, v4⟩ := u'.at' j h2
      obtain ⟨x, g1, x1, x2, x3, x4⟩ := u'.at' v v2
      refine ⟨_, rfl, _, rfl, _, _, _, _, rfl, rfl, SqL.of hl', oV_at e1, _, rfl, rfl, _, rfl, ite3 (fun c => ?_) (fun c => ?_)⟩
      · have hvj : v ≠ j := fun e => by rw [e] at c; simp at c
        refine ⟨fun σ' H'' => ∃ m', m' < n - j ∧ ∃ (o' : List Nat) (j : Nat), m' = n - j ∧ σ' = [some (.ref l), some (.int (j : Int))] ∧ H'' l = some (.lst (oV o')) ∧ UF n Tk o' ∧ ix ≤ j ∧ j ≤ n ∧ (∀ m, ix ≤ m → m < j → Tk m) ∧ ∀ b u, H b = some u → b ≠ l → H'' b = some u, fun _ _ h => h, ?_⟩
        refine ⟨_, rfl, _, rfl, _, rfl, _, _, _, _, rfl, rfl, SqL.of hl', oV_at e1, _, _, _, _, rfl, rfl, SqL.of hl', oV_at g1, ?_⟩
        refine ⟨_, rfl, _, rfl, _, _, _, _, rfl, rfl, hl', ixN_nat (by rw [List.length_map, u'.len]; omega), ?_⟩
        rw [oV_set]
        have hTj : Tk j := v4 j (Nat.le_refl _) (by omega)
        have u2 : UF n Tk (o'.set j x) := u'.set h2 (by omega) x2 ⟨fun e => absurd e (by omega), fun e => by rcases e with e | e; omega; exact absurd hTj e⟩ fun m m1 m2 => by
          by_cases e : m < v
          · exact v4 m m1 e
          · exact x4 m (by omega) m2
        have e3 : (o'.set j x)[j]? = some x := List.getElem?_set_self (by rw [u'.len]; omega)
        refine ⟨_, rfl, _, rfl, _, _, _, _, rfl, rfl, SqL.of upd_same, oV_at e3, ?_⟩
        refine ⟨n - x, by omega, o'.set j x, x, rfl, rfl, upd_same, u2, by omega, x2, fun m m1 m2 => ?_, fun b w e n => by rw [upd_ne n]; exact fr b w e n⟩
        by_cases e : m < j
        · exact h3 m m1 e
        · by_cases e' : m < v
          · exact v4 m (by omega) e'
          · exact x4 m (by omega) m2
      · have hvj : v = j := by
          have : (V.int (v : Int)) = V.int (j : Int) := by
            by_cases e : V.int (v : Int) = V.int (j : Int)
            · exact e
            · rw [decide_eq_false e] at c; cases c
          injection this with this
          omega
        exact ⟨_, rfl, q o' j H' u' h1 h2 (v3.mp hvj) h3 hl' fr⟩
end

/-! ### taken_regions -/
def isN : PyData → Bool
  | .none => true
  | _ => false
def RegOk (n : Nat) (r : List Int) : Prop := r.length = 5 ∧ 0 ≤ r.getD 0 0 ∧ r.getD 0 0 ≤ n ∧ 0 ≤ r.getD 1 0 ∧ r.getD 1 0 ≤ n
def TD (K : PySem.W.Frag) (H : Hp) (ts : List V) (n : Nat) (f : Nat → PyData) : Prop := ts.length = n ∧ ∀ k, k < n → ∃ v, ts[k]? = some v ∧ DT K H v (f k)
theorem TD.dts {K : PySem.W.Frag} {H : Hp} : ∀ {n : Nat} {ts : List V} {f : Nat → PyData}, TD K H ts n f → DTs K H ts ((List.range n).map f)
  | 0, ts, f, ⟨h, _⟩ => by
    cases ts with
    | nil => exact .nil
    | cons _ _ => simp at h
  | n + 1, ts, f, ⟨h, g⟩ => by
    cases ts with
    | nil => simp at h
    | cons v r =>
      obtain ⟨v0, e0, d0⟩ := g 0 (by omega)
      obtain rfl : v = v0 := by simpa using e0
      rw [List.range_succ_eq_map, List.map_cons, List.map_map]
      refine .cons d0 (TD.dts ⟨by simpa using h, fun k hk => ?_⟩)
      obtain ⟨v1, e1, d1⟩ := g (k + 1) (by omega)
      exact ⟨v1, by simpa using e1, d1⟩
theorem TD.keep {K : PySem.W.Frag} {H H' : Hp} {ts : List V} {n : Nat} {f : Nat → PyData} (k : KT K H H') (h : TD K H ts n f) : TD K H' ts n f :=
  ⟨h.1, fun j hj => by obtain ⟨v, e, d⟩ := h.2 j hj; exact ⟨v, e, d.keep k⟩⟩
theorem TD.congr {K : PySem.W.Frag} {H : Hp} {ts : List V} {n : Nat} {f g : Nat → PyData} (h : TD K H ts n f) (e : ∀ k, k < n → f k = g k) : TD K H ts n g :=
  ⟨h.1, fun j hj => by obtain ⟨v, e1, d⟩ := h.2 j hj; exact ⟨v, e1, by rw [← e j hj]; exact d⟩⟩
theorem TD.set {K : PySem.W.Frag} {H : Hp} {ts : List V} {n j : Nat} {f : Nat → PyData} {v : V} {d : PyData} (h : TD K H ts n f) (hj : j < n) (hd : DT K H v d) : TD K H (ts.set j v) n (fun k => if k = j then d else f k) := by
  refine ⟨by simp [h.1], fun k hk => ?_⟩
  by_cases e : k = j
  · subst e
    exact ⟨v, List.getElem?_set_self (by rw [h.1]; exact hk), by simpa using hd⟩
  · obtain ⟨w, e1, dw⟩ := h.2 k hk
    exact ⟨w, by rw [List.getElem?_set_ne (Ne.symm e)]; exact e1, by simpa [e] using dw⟩
theorem UF.congr {n : Nat} {T T' : Nat → Prop} {o : List Nat} (u : UF n T o) (h : ∀ m, m < n → (T m ↔ T' m)) : UF n T' o := by
  refine ⟨u.len, fun k hk => ?_⟩
  obtain ⟨v, e, v1, v2, v3, v4⟩ := u.at' k hk
  refine ⟨v, e, v1, v2, v3.trans ?_, fun m m1 m2 => (h m (by omega)).mp (v4 m m1 m2)⟩
  by_cases c : k = n
  · simp [c]
  · rw [h k (by omega)]
/-- what is taken while a region is gone through, up to the place J -/
def cur (old : Nat → PyData) (r : List Int) (J k : Nat) : PyData := if isN (old k) = true then (if r.getD 0 0 ≤ (k : Int) ∧ k < J ∧ (k : Int) < r.getD 1 0 then regD r else .none) else old k
theorem isN_reg (r : List Int) : isN (regD r) = false := rfl
theorem isN_eq {d : PyData} (h : isN d = true) : d = .none := by
  cases d <;> first | rfl | cases h
theorem findR_step {rs : List (List Int)} {i : Nat} {r : List Int} (er : rs[i]? = some r) (x : Int) : findR (rs.take (i + 1)) x = if isN (findR (rs.take i) x) = true then (if inR x r = true then regD r else .none) else findR (rs.take i) x := by
  unfold findR
  rw [List.take_succ, er, List.find?_append]
  cases e : (rs.take i).find? (inR x) with
  | some r' => simp [isN_reg]
  | none => cases e2 : inR x r <;> simp [e2, isN]
def spTaken (K : PySem.W.Frag) (C : Addr) : Sp := fun vs H Q _ => ∃ (p dx : Addr) (v0 v1 v2 v3 v4 : V) (ca ra : Addr) (cs xs : List V) (rs : List (List Int)) (n : Nat), vs = [.ref p] ∧ H p = some (.ins C dx (unF v0 v1 v2 v3 v4 (.ref ca) (.ref ra))) ∧ SqT K H ca cs ∧ cs.length = n ∧ n ≤ 100000 ∧
  SqT K H ra xs ∧ DTs K H xs (rs.map regD) ∧ (∀ r ∈ rs, RegOk n r) ∧ ∀ (L : Addr) (ts : List V) (H' : Hp), H L = none → H' L = some (.lst ts) → TD K H' ts n (fun k => findR rs (k : Int)) → Same H H' → Q (.ref L) H'
theorem rgV_oV (n : Nat) : rgV 0 ((n : Int) + 1) = oV (List.range (n + 1)) := by
  unfold rgV oV
  rw [show ((n : Int) + 1 - 0).toNat = n + 1 by omega, List.map_inj_left]
  intro k _
  simp
theorem cur_next {old : Nat → PyData} {r : List Int} {j k : Nat} (h0 : r.getD 0 0 ≤ (j : Int)) (h1 : (j : Int) < r.getD 1 0) (hj : isN (cur old r j j) = true) : (if k = j then regD r else cur old r j k) = cur old r (j + 1) k := by
  have ho : isN (old j) = true := by
    unfold cur at hj
    cases e : isN (old j) with
    | true => rfl
    | false => simp [e] at hj
  by_cases e : k = j
  · subst e
    rw [if_pos rfl]
    unfold cur
    rw [if_pos ho, if_pos ⟨h0, by omega, h1⟩]
  · rw [if_neg e]
    unfold cur
    have : (r.getD 0 0 ≤ (k : Int) ∧ k < j ∧ (k : Int) < r.getD 1 0) ↔ (r.getD 0 0 ≤ (k : Int) ∧ k < j + 1 ∧ (k : Int) < r.getD 1 0) := by omega
    simp only [this]
theorem cur_skip {old : Nat → PyData} {r : List Int} {j j' k : Nat} (hj : j ≤ j') (h : ∀ m, j ≤ m → m < j' → isN (cur old r j m) = false) : cur old r j k = cur old r j' k := by
  unfold cur
  by_cases e : isN (old k) = true
  · rw [if_pos e, if_pos e]
    by_cases c : j ≤ k ∧ k < j'
    · have := h k c.1 c.2
      unfold cur at this
      rw [if_pos e, if_neg (by omega)] at this
      cases this
    · have : (r.getD 0 0 ≤ (k : Int) ∧ k < j ∧ (k : Int) < r.getD 1 0) ↔ (r.getD 0 0 ≤ (k : Int) ∧ k < j' ∧ (k : Int) < r.getD 1 0) := by omega
      simp only [this]
  · rw [if_neg e, if_neg e]
theorem cur_zero {old : Nat → PyData} {r : List Int} {J k : Nat} (h : (J : Int) ≤ r.getD 0 0) : cur old r J k = old k := by
  unfold cur
  by_cases e : isN (old k) = true
  · rw [if_pos e, if_neg (by omega), isN_eq e]
  · rw [if_neg e]
theorem cur_end {old : Nat → PyData} {r : List Int} {J k : Nat} (h : r.getD 1 0 ≤ (J : Int)) : cur old r J k = if isN (old k) = true then (if inR (k : Int) r = true then regD r else .none) else old k := by
  unfold cur
  have : (r.getD 0 0 ≤ (k : Int) ∧ k < J ∧ (k : Int) < r.getD 1 0) ↔ inR (k : Int) r = true := by
    unfold inR
    simp only [Bool.and_eq_true, decide_eq_true_eq]
    omega
  simp only [this]
section
variable {P : Program} {w : World} {K : PySem.W.Frag} {mg : Str → Option Value} {base : Heap} {a : Ad}
theorem ok_taken_regions (T : Txt K mg a) : FnOk P w K mg base CX0 2 a.f_taken_regions a.d_taken_regions ["unit"] (spTaken K a.C_Unit) := by
  have G_first_free_flow : FnOk P w K mg base CX0 1 _ _ _ _ := ok_first_free_flow T
  refine T.F_taken_regions.ok sc_taken_regions (fun vs H Q E h => ?_) (fun cdv A outer s H vs Q E hr h => ?_)
  · obtain ⟨_, _, _, _, _, _, _, _, _, _, _, _, _, rfl, _⟩ := h; rfl
  · obtain ⟨p, dx, v0, v1, v2, v3, v4, ca, ra, cs, xs, rs, n, rfl, hp, hca, hn, hn2, hra, hxs, hok, q⟩ := h
    have hz := sizeLine_eq
    have hlx := hxs.len
    subst hn
    refine ⟨_, (pss_cons (ps_set (i := 1) sc_taken_regions.nd rfl (Or.inl rfl) (pe_callB call_len_seq (by rfl) T.b_len (by decide +kernel) (pa_cons (pe_fld (pv 0) rfl) pa_nil)))
      (pss_cons (ps_set (i := 2) sc_taken_regions.nd rfl (Or.inl rfl) (pe_op op_rep (pe_lst (pa_cons pe_non pa_nil)) (pv 1)))
      (pss_cons (ps_set (i := 3) sc_taken_regions.nd rfl (Or.inl rfl) (pe_listRg rfl (by rfl) T.b_list (prg_1 (by rfl) T.b_range (pe_op op_add (pv 1) pe_int))))
      (pss_cons (ps_for PassesOwn.never rfl (pi_tup (pe_fld (pv 0) rfl)) (pg_name (i := 4) sc_taken_regions.nd rfl (Or.inl rfl)) (pss_cons (ps_set (i := 5) sc_taken_regions.nd rfl (Or.inl rfl) (pe_call G_first_free_flow (hr.mono (by decide)) rfl T.g_first_free_flow T.k_first_free_flow T.bd_first_free_flow .nil pass0 (pa_cons (pv 3) (pa_cons (pe_ix ix_tup (pv 4) pe_int (fun _ _ => rfl)) pa_nil))))
      (pss_one (ps_while PassesOwn.never (pt_cmpR op_lt (pv 5) (pe_ix ix_tup (pv 4) pe_int (fun _ _ => rfl)) (nomark _)) (pss_cons (ps_asg (pv 4) (pg_sub (pv 2) (pv 5) set_list))
      (pss_cons (ps_asg (pe_op op_add (pv 5) pe_int) (pg_sub (pv 3) (pv 5) set_list))
      (pss_one (ps_set (i := 5) sc_taken_regions.nd rfl (Or.inl rfl) (pe_call G_first_free_flow (hr.mono (by decide)) rfl T.g_first_free_flow T.k_first_free_flow T.bd_first_free_flow .nil pass0 (pa_cons (pv 3) (pa_cons (pv 5) pa_nil)))))))))))
      (pss_one (ps_ret (pv 2))))))), ?_⟩
    refine ⟨_, rfl, p, a.C_Unit, dx, _, _, rfl, hp, T.cl_Unit, T.n_Unit_code, un_cd _ _ _ _ _ _ _, _, _, rfl, .inr hca, ?_⟩
    refine ⟨(by show 1 ≤ sizeLine; decide), fun l1 m1 => ⟨_, rfl, _, _, _, rfl, rfl, upd_same, by omega, by omega, (by simp; omega), fun L nL => ?_⟩⟩
    have s1 := sN (Same.refl H) m1 (o := .lst [V.non])
    have nL0 : H L = none := by
      by_cases e : H L = none
      · exact e
      · obtain ⟨u, hu⟩ := Option.ne_none_iff_exists'.mp e
        rw [s1 _ _ hu] at nL; cases nL
    have s2 := sN s1 nL (o := .lst ((List.replicate ((cs.length : Int)).toNat [V.non]).flatten))
    refine ⟨_, rfl, _, _, rfl, rfl, _, rfl, ⟨by omega, by omega, by omega, by omega, by omega⟩, fun O nO => ?_⟩
    have s3 := sN s2 nO (o := .lst (rgV 0 ((cs.length : Int) + 1)))
    have nLO : L ≠ O := ne_of_none upd_same nO
    have nO0 : H O = none := by
      by_cases e : H O = none
      · exact e
      · obtain ⟨u, hu⟩ := Option.ne_none_iff_exists'.mp e
        rw [s2 _ _ hu] at nO; cases nO
    have hp3 := s3 _ _ hp
    have hra3 := seqT s3 hra
    refine ⟨_, rfl, p, a.C_Unit, dx, _, _, rfl, hp3, T.cl_Unit, T.n_Unit_regions, un_rg _ _ _ _ _ _ _, ra, rfl, ⟨_, hra3⟩, ?_⟩
    refine for_tup (K := K) (a := ra) (xs := xs) (fun i σ H' => ∃ (o : List Nat) (ts : List V) (og oi : Option V), σ = [some (.ref p), some (.int (cs.length : Int)), some (.ref L), some (.ref O), og, oi] ∧ H' O = some (.lst (oV o)) ∧ H' L = some (.lst ts) ∧ TD K H' ts cs.length (fun k => findR (rs.take i) (k : Int)) ∧ UF cs.length (fun m => isN (findR (rs.take i) (m : Int)) = false) o ∧ Same H H')
      ⟨List.range (cs.length + 1), _, _, _, rfl, by rw [upd_same, ← rgV_oV], by rw [upd_ne nLO, upd_same], ⟨by simp, fun k hk => ⟨.non, by simp [hk], .non⟩⟩, ⟨by simp, fun k hk => ⟨k, List.getElem?_range (by omega), Nat.le_refl _, hk, by simp [findR, isN], fun m m1 m2 => absurd m1 (by omega)⟩⟩, s3⟩
      (fun i σ H' _ ⟨_, _, _, _, _, _, _, _, _, ss⟩ => seqT ss hra) ?_ ?_
    · rintro i x σ H1 hx ⟨o, ts, og, oi, rfl, hO, hL, td, uf, ss⟩
      obtain ⟨d, ed, dx1⟩ := hxs.at hx
      rw [List.getElem?_map] at ed
      obtain ⟨r, er, rfl⟩ := Option.map_eq_some_iff.mp ed
      obtain ⟨h5, a0, a1, b0, b1⟩ := hok r (List.mem_of_getElem? er)
      obtain ⟨pb, ys, rfl, hys, hd2⟩ := dx1.ts
      obtain ⟨u0, e0, k0⟩ := hd2.it 0 (ints_get (r := r) (i := 0) (by omega))
      obtain ⟨u1, e1, k1⟩ := hd2.it 1 (ints_get (r := r) (i := 1) (by omega))
      cases k0.i
      cases k1.i
      have hstep := fun (x : Int) => findR_step er x
      obtain ⟨ra0, era⟩ : ∃ k : Nat, r.getD 0 0 = (k : Int) := ⟨(r.getD 0 0).toNat, by omega⟩
      obtain ⟨rb0, erb⟩ : ∃ k : Nat, r.getD 1 0 = (k : Int) := ⟨(r.getD 1 0).toNat, by omega⟩
      have hdR : ∀ {H' : Hp}, Same H H' → DT K H' (.ref pb) (regD r) := fun s => dx1.keep (KT.same s)
      refine ⟨_, rfl, _, rfl, _, _, _, _, rfl, rfl, seqT ss hys, e0, O, o, cs.length, _, ra0, (by rw [era]; rfl), hO, uf, by omega, fun o1 j H2 u1' j1 j2 j3 j4 hO2 fr => ?_⟩
      have ss2 : Same H H2 := fun b u e => fr b u (ss b u e) (ne_of_none e nO0)
      have hL2 := fr _ _ hL nLO
      have kt : KT K H1 H2 := fun b zs h => by
        rcases h with (h | ⟨u, h⟩) | h
        · exact .inl (.inl (fr _ _ h (ne_of h hO fun z => nomatch z)))
        · exact .inl (.inr ⟨u, fr _ _ h (ne_of h hO fun z => nomatch z)⟩)
        · exact .inr h
      have td2 := td.keep kt
      clear kt fr hO hL td uf ss
      have ex := fun (k : Nat) => hstep (k : Int)
      generalize hold : (fun k : Nat => findR (rs.take i) (k : Int)) = old at td2
      have hold' : ∀ k : Nat, findR (rs.take i) (k : Int) = old k := fun k => congrFun hold k
      simp only [hold'] at u1' j3 j4 ex
      have js : cur old r ra0 = cur old r j := funext fun k => cur_skip j1 fun m m1 m2 => by rw [cur_zero (by omega)]; exact j4 m m1 m2
      have j0 : old = cur old r ra0 := funext fun k => (cur_zero (by omega)).symm
      have td3 : TD K H2 ts cs.length (cur old r j) := td2.congr fun k hk => by rw [← js, ← j0]
      have u3 : UF cs.length (fun m => isN (cur old r j m) = false) o1 := u1'.congr fun m hm => by rw [← js, ← j0]
      have f3 : j = cs.length ∨ isN (cur old r j j) = true := by
        rcases j3 with e | e
        · exact .inl e
        · right
          rw [← js, ← j0]
          simpa using e
      have l3 : r.getD 0 0 ≤ (j : Int) := by omega
      clear j4 j3 u1' td2 js
      refine ⟨fun m σ H' => ∃ (o : List Nat) (ts : List V) (j : Nat), m = cs.length - j ∧ σ = [some (.ref p), some (.int (cs.length : Int)), some (.ref L), some (.ref O), some (.ref pb), some (.int (j : Int))] ∧ H' O = some (.lst (oV o)) ∧ H' L = some (.lst ts) ∧ TD K H' ts cs.length (cur old r j) ∧ UF cs.length (fun m => isN (cur old r j m) = false) o ∧ Same H H' ∧
          j ≤ cs.length ∧ r.getD 0 0 ≤ (j : Int) ∧ (j = cs.length ∨ isN (cur old r j j) = true), ⟨_, o1, ts, j, rfl, rfl, hO2, hL2, td3, u3, ss2, j2, l3, f3⟩, ?_⟩
      clear hO2 hL2 td3 u3 ss2 j2 l3 f3 j1
      rintro mm σ H3 ⟨o, ts, j, rfl, rfl, hO, hL, td, uf, ss, hj, hj0, hjf⟩
      refine ⟨_, rfl, _, rfl, _, _, _, _, rfl, rfl, seqT ss hys, e1, _, _, rfl, rfl, _, rfl, ite3 (fun c => ?_) (fun c => ?_)⟩
      · have hjb : (j : Int) < r.getD 1 0 := of_decide_eq_true c
        have hjn : j < cs.length := by omega
        have hfree : isN (cur old r j j) = true := by
          rcases hjf with e | e
          · omega
          · exact e
        refine ⟨fun σ' H' => ∃ m', m' < cs.length - j ∧ ∃ (o : List Nat) (ts : List V) (j : Nat), m' = cs.length - j ∧ σ' = [some (.ref p), some (.int (cs.length : Int)), some (.ref L), some (.ref O), some (.ref pb), some (.int (j : Int))] ∧ H' O = some (.lst (oV o)) ∧ H' L = some (.lst ts) ∧ TD K H' ts cs.length (cur old r j) ∧ UF cs.length (fun m => isN (cur old r j m) = false) o ∧ Same H H' ∧
          j ≤ cs.length ∧ r.getD 0 0 ≤ (j : Int) ∧ (j = cs.length ∨ isN (cur old r j j) = true), fun _ _ h => h, ?_⟩
        refine ⟨_, rfl, _, rfl, _, rfl, _, _, _, _, rfl, rfl, hL, ixN_nat (by rw [td.1]; exact hjn), ?_⟩
        have hO4 : upd H3 L (.lst (ts.set j (.ref pb))) O = some (.lst (oV o)) := by rw [upd_ne nLO.symm]; exact hO
        refine ⟨_, rfl, _, _, rfl, rfl, _, rfl, _, rfl, _, _, _, _, rfl, rfl, hO4, ixN_nat (by rw [List.length_map, uf.len]; omega), ?_⟩
        have e2 : (oV o).set j (.int ((j : Int) + 1)) = oV (o.set j (j + 1)) := by
          rw [show ((j : Int) + 1) = ((j + 1 : Nat) : Int) by omega, oV_set]
        have hOs : upd (upd H3 L (.lst (ts.set j (.ref pb)))) O (.lst ((oV o).set j (.int ((j : Int) + 1)))) O = some (.lst (oV (o.set j (j + 1)))) := by rw [upd_same, e2]
        have td4 : TD K H3 (ts.set j (.ref pb)) cs.length (cur old r (j + 1)) := (td.set hjn (hdR ss)).congr fun k hk => cur_next hj0 hjb hfree
        have tkn : isN (cur old r (j + 1) j) = false := by rw [← cur_next hj0 hjb hfree, if_pos rfl]; exact isN_reg r
        have u4 : UF cs.length (fun m => isN (cur old r (j + 1) m) = false) (o.set j (j + 1)) := by
          have hne : ∀ m, m ≠ j → cur old r (j + 1) m = cur old r j m := fun m hm => by rw [← cur_next hj0 hjb hfree, if_neg hm]
          refine ⟨by simp [uf.len], fun k hk => ?_⟩
          by_cases e : k = j
          · subst e
            exact ⟨k + 1, List.getElem?_set_self (by rw [uf.len]; omega), by omega, by omega, ⟨fun z => absurd z (by omega), fun z => by rcases z with z | z; omega; exact absurd tkn z⟩, fun m m1 m2 => by rw [show m = k by omega]; exact tkn⟩
          · obtain ⟨v, w1, w2, w3, w4, w5⟩ := uf.at' k hk
            refine ⟨v, by rw [List.getElem?_set_ne (Ne.symm e)]; exact w1, w2, w3, by rw [hne k e]; exact w4, fun m m1 m2 => ?_⟩
            by_cases e' : m = j
            · rw [e']; exact tkn
            · rw [hne m e']; exact w5 m m1 m2
        have ss5 : Same H (upd (upd H3 L (.lst (ts.set j (.ref pb)))) O (.lst ((oV o).set j (.int ((j : Int) + 1))))) := sUpd (sUpd ss nL0) nO0
        refine ⟨_, rfl, _, rfl, O, o.set j (j + 1), cs.length, _, j, rfl, hOs, u4, by omega, fun o5 j5 H5 u5 q1 q2 q3 q4 hO5 fr5 => ?_⟩
        have hL4 : upd (upd H3 L (.lst (ts.set j (.ref pb)))) O (.lst ((oV o).set j (.int ((j : Int) + 1)))) L = some (.lst (ts.set j (.ref pb))) := by rw [upd_ne nLO, upd_same]
        have hL5 := fr5 _ _ hL4 nLO
        have k5 : KT K H3 H5 := ((KT.put hL).tr (KT.put hO4)).tr fun b zs h => by
          rcases h with (h | ⟨u, h⟩) | h
          · exact .inl (.inl (fr5 _ _ h (ne_of h hOs fun z => nomatch z)))
          · exact .inl (.inr ⟨u, fr5 _ _ h (ne_of h hOs fun z => nomatch z)⟩)
          · exact .inr h
        have hj5 : j + 1 ≤ j5 := by
          by_cases e : j5 = j
          · subst e
            rcases q3 with e | e
            · omega
            · exact absurd tkn e
          · omega
        have sk : cur old r (j + 1) = cur old r j5 := funext fun k => cur_skip hj5 fun m m1 m2 => q4 m (by omega) m2
        refine ⟨cs.length - j5, by omega, o5, ts.set j (.ref pb), j5, rfl, rfl, hO5, hL5, by rw [← sk]; exact td4.keep k5, by rw [← sk]; exact u5, fun b u e => fr5 b u (ss5 b u e) (ne_of_none e nO0), q2, by omega, ?_⟩
        rw [← sk]
        rcases q3 with e | e
        · exact .inl e
        · exact .inr (by simpa using e)
      · have hjb : r.getD 1 0 ≤ (j : Int) := by
          have := of_decide_eq_false c
          omega
        refine ⟨o, ts, _, _, rfl, hO, hL, td.congr fun k hk => ?_, uf.congr fun m hm => ?_, ss⟩
        · rw [cur_end hjb, ex k]
        · rw [cur_end hjb, ex m]
    · rintro σ H1 ⟨o, ts, og, oi, rfl, hO, hL, td, uf, ss⟩
      rw [hlx, List.length_map, List.take_length] at td
      exact ⟨_, rfl, q L ts H1 nL0 hL td ss⟩
end

section
variable {K : PySem.W.Frag} {H H' : Hp}
theorem lay {p : Addr} {vs : List V} {ds : List PyData} (np : H p = none) (h : DTs K H vs ds) : DT K (upd H p (.tup vs)) (.ref p) (.tuple ds) := .tup (SqT.of upd_same) (h.keep (KT.new np))
theorem dts_ints : ∀ (js : List Int), DTs K H (js.map V.int) (js.map .int)
  | [] => .nil
  | j :: r => .cons (.int j) (dts_ints r)
end
theorem sorted_ext : ∀ {xs ys : List Int}, xs.Pairwise (· < ·) → ys.Pairwise (· < ·) → (∀ k, k ∈ xs ↔ k ∈ ys) → xs = ys
  | [], [], _, _, _ => rfl
  | [], y :: _, _, _, h => absurd ((h y).mpr List.mem_cons_self) (by simp)
  | x :: _, [], _, _, h => absurd ((h x).mp List.mem_cons_self) (by simp)
  | x :: xs, y :: ys, hx, hy, h => by
    obtain ⟨a1, a2⟩ := List.pairwise_cons.mp hx
    obtain ⟨b1, b2⟩ := List.pairwise_cons.mp hy
    have e : x = y := by
      have h1 := (h x).mp List.mem_cons_self
      have h2 := (h y).mpr List.mem_cons_self
      rcases List.mem_cons.mp h1 with h1 | h1
      · exact h1
      · rcases List.mem_cons.mp h2 with h2 | h2
        · exact h2.symm
        · have := b1 x h1
          have := a1 y h2
          omega
    subst e
    rw [sorted_ext a2 b2 fun k => ?_]
    constructor
    · intro hk
      rcases List.mem_cons.mp ((h k).mp (List.mem_cons_of_mem _ hk)) with e | e
      · have := a1 k hk; omega
      · exact e
    · intro hk
      rcases List.mem_cons.mp ((h k).mpr (List.mem_cons_of_mem _ hk)) with e | e
      · have := b1 k hk; omega
      · exact e
theorem pair_sorted {t b : Int} {ns : List Int} (h : ns.Pairwise (· < ·)) (m : ∀ k, k ∈ ns ↔ decide (k ∈ [t, b]) = true) : (t ≠ b → ns = [mn t b, mx t b]) ∧ (t = b → ns = [b]) := by
  refine ⟨fun e => sorted_ext h (List.pairwise_cons.mpr ⟨?_, List.pairwise_singleton _ _⟩) fun k => ?_, fun e => sorted_ext h (List.pairwise_singleton _ _) fun k => ?_⟩
  · intro y hy
    rw [List.mem_singleton.mp hy]
    unfold mn mx
    split <;> split <;> omega
  · rw [m k]
    simp only [decide_eq_true_eq, List.mem_cons, List.not_mem_nil, or_false]
    unfold mn mx
    split <;> split <;> omega
  · rw [m k]
    simp only [decide_eq_true_eq, List.mem_cons, List.not_mem_nil, or_false]
    omega

/-! ### edges -/
def ins (x : Int) : List Int → List Int
  | [] => [x]
  | y :: r => if x < y then x :: y :: r else if x = y then y :: r else y :: ins x r
def canon (l : List Int) : List Int := l.foldr ins []
theorem mem_ins {x k : Int} : ∀ {l : List Int}, k ∈ ins x l ↔ k = x ∨ k ∈ l
  | [] => by simp [ins]
  | y :: r => by
    have ih := mem_ins (x := x) (k := k) (l := r)
    unfold ins
    split
    · simp
    · split
      · rename_i e; subst e; simp
      · rw [List.mem_cons, ih, List.mem_cons]
        constructor
        · rintro (h | h | h) <;> simp [h]
        · rintro (h | h | h) <;> simp [h]
theorem ins_sorted {x : Int} : ∀ {l : List Int}, l.Pairwise (· < ·) → (ins x l).Pairwise (· < ·)
  | [], _ => List.pairwise_singleton _ _
  | y :: r, h => by
    obtain ⟨h1, h2⟩ := List.pairwise_cons.mp h
    unfold ins
    split
    · rename_i c
      refine List.pairwise_cons.mpr ⟨fun z hz => ?_, h⟩
      rcases List.mem_cons.mp hz with e | e
      · rw [e]; exact c
      · have := h1 z e; omega
    · split
      · exact h
      · refine List.pairwise_cons.mpr ⟨fun z hz => ?_, ins_sorted h2⟩
        rcases mem_ins.mp hz with e | e
        · rw [e]; omega
        · exact h1 z e
theorem mem_canon {k : Int} : ∀ {l : List Int}, k ∈ canon l ↔ k ∈ l
  | [] => by simp [canon]
  | x :: r => by
    show k ∈ ins x (canon r) ↔ _
    rw [mem_ins, mem_canon, List.mem_cons]
theorem canon_sorted : ∀ {l : List Int}, (canon l).Pairwise (· < ·)
  | [] => List.Pairwise.nil
  | x :: r => ins_sorted canon_sorted
theorem canon_uniq {l ns : List Int} (h : ns.Pairwise (· < ·)) (m : ∀ k, k ∈ ns ↔ k ∈ l) : ns = canon l := sorted_ext h canon_sorted fun k => by rw [m k, mem_canon]
def nmOf : PyData → Str
  | .tuple (.str nm :: _) => nm
  | _ => ""
def intAt (D : PyData) (k : Nat) : Int := match D with
  | .tuple ds => match ds[k]? with
    | some (.int t) => t
    | _ => 0
  | _ => 0
def folL (D : PyData) (ix : Int) : List Int := if nmOf D = "jump" then [intAt D 1] else if nmOf D = "branch" then [intAt D 2, ix + 1] else if inV (.str (nmOf D)) lvs = true then [] else [ix + 1]
def entL (rs : List (List Int)) (ix : Int) : List Int := match rs.find? (inR ix) with
  | some r => [r.getD 2 0]
  | none => []
def wayL (D : PyData) (rs : List (List Int)) (ix : Int) : List Int := folL D ix ++ (if inV (.str (nmOf D)) rss = true then entL rs ix else [])
def InsOk (D : PyData) : Prop := ∃ nm ds, D = .tuple (.str nm :: ds) ∧ (nm = "jump" → ∃ t, ds[0]? = some (.int t)) ∧ (nm = "branch" → ∃ t, ds[1]? = some (.int t))
def edgeF (cs : List PyData) (rs : List (List Int)) (i : Nat) : PyData := .tuple ((canon (wayL (cs.getD i .none) rs (i : Int))).map .int)
theorem ins_len {x : Int} : ∀ {l : List Int}, (ins x l).length ≤ l.length + 1
  | [] => Nat.le_refl _
  | y :: r => by
    have ih := ins_len (x := x) (l := r)
    unfold ins
    split
    · simp
    · split
      · simp
      · simp only [List.length_cons]; omega
theorem canon_len : ∀ {l : List Int}, (canon l).length ≤ l.length
  | [] => Nat.le_refl _
  | x :: r => Nat.le_trans (ins_len (x := x) (l := canon r)) (Nat.succ_le_succ canon_len)
theorem folL_len {D : PyData} {ix : Int} : (folL D ix).length ≤ 2 := by
  unfold folL
  split
  · simp
  · split
    · simp
    · split <;> simp
theorem lvs_no : inV (.str "jump") lvs = false ∧ inV (.str "branch") lvs = false := by decide +kernel
theorem canon_one (x : Int) : canon [x] = [x] := rfl
theorem fo_ok {nm : Str} {ds : List PyData} {ix : Int} (h1 : nm = "jump" → ∃ t, ds[0]? = some (.int t)) (h2 : nm = "branch" → ∃ t, ds[1]? = some (.int t)) : FoOk nm (.str nm :: ds) ix ((canon (folL (.tuple (.str nm :: ds)) ix)).map .int) := by
  unfold folL
  show FoOk nm _ ix ((canon (if nm = "jump" then _ else if nm = "branch" then _ else if inV (.str nm) lvs = true then _ else _)).map .int)
  by_cases e1 : nm = "jump"
  · obtain ⟨t, e⟩ := h1 e1
    rw [if_pos e1]
    refine .inr (.inl ⟨by rw [e1]; exact lvs_no.1, e1, t, by simpa using e, ?_⟩)
    have : intAt (.tuple (.str nm :: ds)) 1 = t := by unfold intAt; simp [e]
    rw [this, canon_one]
    rfl
  rw [if_neg e1]
  by_cases e2 : nm = "branch"
  · obtain ⟨t, e⟩ := h2 e2
    rw [if_pos e2]
    have : intAt (.tuple (.str nm :: ds)) 2 = t := by unfold intAt; simp [e]
    rw [this]
    have hp := pair_sorted (t := t) (b := ix + 1) (canon_sorted (l := [t, ix + 1])) fun k => by rw [mem_canon]; simp
    by_cases c : t = ix + 1
    · rw [hp.2 c]
      exact .inr (.inr (.inr (.inl ⟨by rw [e2]; exact lvs_no.2, e1, e2, t, by simpa using e, c, rfl⟩)))
    · rw [hp.1 c]
      exact .inr (.inr (.inl ⟨by rw [e2]; exact lvs_no.2, e1, e2, t, by simpa using e, c, rfl⟩))
  rw [if_neg e2]
  cases c : inV (.str nm) lvs with
  | true => exact .inl ⟨c, rfl⟩
  | false => exact .inr (.inr (.inr (.inr ⟨c, e1, e2, rfl⟩)))
theorem inV_int {z : Int} : ∀ {l : List Int}, inV (.int z) (l.map V.int) = decide (z ∈ l)
  | [] => by simp [inV]
  | x :: l => by
    have ih := inV_int (z := z) (l := l)
    unfold inV at ih ⊢
    rw [List.map_cons, List.any_cons, ih]
    show ((x == z) || decide (z ∈ l)) = decide (z ∈ x :: l)
    by_cases e : x = z
    · simp [e]
    · have e' : ¬ z = x := fun q => e q.symm
      simp [e, e', List.mem_cons]
theorem flat_ints (l : List Int) : (l.map V.int).all flatV = true := by
  rw [List.all_map]
  exact List.all_eq_true.mpr fun x _ => rfl
theorem DTs.ints {K : PySem.W.Frag} {H : Hp} : ∀ {xs : List V} {ns : List Int}, DTs K H xs (ns.map .int) → xs = ns.map V.int
  | _, [], h => h.em
  | _, n :: r, h => by
    obtain ⟨v, vs, e, k, t⟩ := h.un
    rw [e, k.i, t.ints]
    rfl
def spEdges (K : PySem.W.Frag) (C : Addr) : Sp := fun vs H Q _ => ∃ (p dx : Addr) (v0 v1 v2 v3 v4 : V) (ca ra : Addr) (us xs : List V) (cs : List PyData) (rs : List (List Int)), vs = [.ref p] ∧ H p = some (.ins C dx (unF v0 v1 v2 v3 v4 (.ref ca) (.ref ra))) ∧ SqT K H ca us ∧ DTs K H us cs ∧ (∀ D ∈ cs, InsOk D) ∧ cs.length ≤ 100000 ∧
  SqT K H ra xs ∧ DTs K H xs (rs.map regD) ∧ (∀ r ∈ rs, RegOk cs.length r) ∧ ∀ (u : V) (H' : Hp), DT K H' u (.tuple ((List.range cs.length).map (edgeF cs rs))) → Same H H' → Q u H'
section
variable {P : Program} {w : World} {K : PySem.W.Frag} {mg : Str → Option Value} {base : Heap} {a : Ad}
theorem ok_edges (T : Txt K mg a) : FnOk P w K mg base CX0 3 a.f_edges a.d_edges ["unit"] (spEdges K a.C_Unit) := by
  have G_taken_regions : FnOk P w K mg base CX0 2 _ _ _ _ := ok_taken_regions T
  have G_can_raise : FnOk P w K mg base CX0 1 _ _ _ _ := ok_can_raise T
  have G_followers : FnOk P w K mg base CX0 1 _ _ _ _ := ok_followers T
  refine T.F_edges.ok sc_edges (fun vs H Q E h => ?_) (fun cdv A outer s H vs Q E hr h => ?_)
  · obtain ⟨_, _, _, _, _, _, _, _, _, _, _, _, _, rfl, _⟩ := h; rfl
  · obtain ⟨p, dx, v0, v1, v2, v3, v4, ca, ra, us, xs, cs, rs, rfl, hp, hca, hcs, hins, hn2, hra, hxs, hok, q⟩ := h
    have hz := sizeLine_eq
    have hul := hcs.len
    refine ⟨_, (pss_cons (ps_set (i := 1) sc_edges.nd rfl (Or.inl rfl) (pe_lst pa_nil))
      (pss_cons (ps_for PassesOwn.never rfl (EZ.pi_ez (by rfl) T.b_enumerate (by rfl) T.b_zip (pa_cons (pe_fld (pv 0) rfl) (pa_cons (pe_call G_taken_regions (hr.mono (by decide)) rfl T.g_taken_regions T.k_taken_regions T.bd_taken_regions .nil pass0 (pa_cons (pv 0) pa_nil)) pa_nil))) (pg_tup rfl (pgs_cons (pg_name (i := 2) sc_edges.nd rfl (Or.inl rfl)) (pgs_cons (pg_tup rfl (pgs_cons (pg_name (i := 3) sc_edges.nd rfl (Or.inl rfl)) (pgs_cons (pg_name (i := 4) sc_edges.nd rfl (Or.inl rfl)) pgs_nil))) pgs_nil))) (pss_cons (ps_set (i := 5) sc_edges.nd rfl (Or.inl rfl) (pe_call G_followers (hr.mono (by decide)) rfl T.g_followers T.k_followers T.bd_followers .nil pass0 (pa_cons (pv 3) (pa_cons (pv 2) pa_nil))))
      (pss_cons (ps_if (PW.pt (pw_and (pt_cmpR op_notN (pv 4) pe_non (nomark _)) (pw_and (pt_val (pe_call G_can_raise (hr.mono (by decide)) rfl T.g_can_raise T.k_can_raise T.bd_can_raise .nil pass0 (pa_cons (pv 3) pa_nil))) (pw_and1 (pt_cmpR op_notInS (pe_ix ix_tup (pv 4) pe_int (fun _ _ => rfl)) (pv 5) rfl))))) (pss_one (ps_set (i := 5) sc_edges.nd rfl (Or.inl rfl) (pe_callTy call_tuple_of (by rfl) T.b_tuple (by decide +kernel) (pa_cons (pe_callB cr_sorted (by rfl) T.b_sorted (by decide +kernel) (pa_cons (pe_lst (pa_cons (pe_ix ix_tup (pv 4) pe_int (fun _ _ => rfl)) (StX.pa_star (pv 5) pa_nil))) pa_nil)) pa_nil)))) pss_nil)
      (pss_one (ps_expr (pe_bm PySem.F.plainAttrs_list PySem.F.slot_list_append PySem.F.type_list_append mt_append (pv 1) (pa_cons (pv 5) pa_nil)))))))
      (pss_one (ps_ret (pe_callTy call_tuple_of (by rfl) T.b_tuple (by decide +kernel) (pa_cons (pv 1) pa_nil)))))), ?_⟩
    refine ⟨by decide, fun W nW => ?_⟩
    have s0 := sN (Same.refl H) nW (o := .lst [])
    refine ⟨_, rfl, p, a.C_Unit, dx, _, _, rfl, s0 _ _ hp, T.cl_Unit, T.n_Unit_code, un_cd _ _ _ _ _ _ _, ?_⟩
    refine ⟨_, rfl, p, dx, v0, v1, v2, v3, v4, ca, ra, us, xs, rs, cs.length, rfl, s0 _ _ hp, seqT s0 hca, hul, hn2, seqT s0 hra, hxs.keep (KT.same s0), hok, fun L ts H1 nL hL td s1 => ?_⟩
    have s01 := sTr s0 s1
    refine ⟨ca, L, us, ts, rfl, seqT s01 hca, SqL.of hL, ?_⟩
    have hW1 := s1 _ _ (upd_same (H := H) (a := W) (o := .lst []))
    have hWL : W ≠ L := fun e => by rw [← e] at nL; rw [upd_same] at nL; cases nL
    refine EZ.for_ez (K := K) (a := ca) (b := L) (xs := us) (ys := ts) (by rw [hul, td.1]) (fun i σ H' => ∃ (ws : List V) (o2 o3 o4 o5 : Option V), σ = [some (.ref p), some (.ref W), o2, o3, o4, o5] ∧ H' W = some (.lst ws) ∧ H' L = some (.lst ts) ∧ DTs K H' ws ((List.range i).map (edgeF cs rs)) ∧ Same H H' ∧ KT K H1 H')
      ⟨[], _, _, _, _, rfl, hW1, hL, .nil, s01, fun _ _ h => h⟩ (fun i σ H' _ ⟨_, _, _, _, _, _, _, hL', _, ss, _⟩ => ⟨seqT ss hca, SqL.of hL'⟩) ?_ ?_
    · rintro i x y σ H2 T2 U hx hy ⟨ws, o2, o3, o4, o5, rfl, hW, hL2, hws, ss, kk⟩ nT nU
      obtain ⟨D, eD, dD⟩ := hcs.at hx
      have hi : i < cs.length := (List.getElem?_eq_some_iff.mp eD).1
      obtain ⟨y', ey, dy⟩ := td.2 i hi
      rw [hy] at ey
      obtain rfl := Option.some.inj ey
      have sT := sN (Same.refl H2) nT (o := .tup [x, y])
      have sU := sN sT nU (o := .tup [.int (i : Nat), .ref T2])
      have dD2 := dD.keep (KT.same (sTr ss sU))
      have dy2 : DT K _ y (findR rs (i : Int)) := dy.keep (kk.tr (KT.same sU))
      obtain ⟨nm, ds, rfl, j1, j2⟩ := hins D (List.mem_of_getElem? eD)
      have hW2 := sU _ _ hW
      have hL3 := sU _ _ hL2
      have nTU : T2 ≠ U := ne_of_none upd_same nU
      refine ⟨U, _, rfl, SqT.of upd_same, rfl, _, _, rfl, _, _, rfl, ⟨T2, [x, y], rfl, SqT.of (by rw [upd_ne nTU, upd_same]), rfl, _, _, rfl, _, _, rfl, rfl, rfl, ?_⟩⟩
      refine ⟨_, rfl, _, rfl, x, nm, ds, _, (i : Int), rfl, dD2, fo_ok j1 j2, fun u H5 du s5 => ?_⟩
      have ss5 := sTr (sTr ss sU) s5
      have sA := sTr sU s5
      have hW5 := s5 _ _ hW2
      have hL5 := s5 _ _ hL3
      have hw0 : edgeF cs rs i = .tuple ((canon (wayL (.tuple (.str nm :: ds)) rs (i : Int))).map .int) := by
        unfold edgeF
        rw [List.getD_eq_getElem?_getD, eD]
        rfl
      have fin : ∀ {H6 : Hp} {u6 : V}, Same H5 H6 → DT K H6 u6 (edgeF cs rs i) → DTs K (upd H6 W (.lst (ws ++ [u6]))) (ws ++ [u6]) ((List.range (i + 1)).map (edgeF cs rs)) := fun {H6 u6} s6 d6 => by
        rw [List.range_succ, List.map_append]
        exact ((hws.keep (KT.same (sTr sA s6))).app (.cons d6 .nil)).keep (KT.put (s6 _ _ hW5))
      have kkf : ∀ {H6 : Hp} {u6 : V}, Same H5 H6 → KT K H1 (upd H6 W (.lst (ws ++ [u6]))) := fun {H6 u6} s6 => (kk.tr (KT.same (sTr sA s6))).tr (KT.put (s6 _ _ hW5))
      have noadd : canon (wayL (.tuple (.str nm :: ds)) rs (i : Int)) = canon (folL (.tuple (.str nm :: ds)) (i : Int)) → DT K H5 u (edgeF cs rs i) := fun e => by rw [hw0, e]; exact du
      have hwl : ws.length = i := by rw [hws.len]; simp
      refine ⟨_, rfl, rfl, _, rfl, ite3 (fun c => ?_) (fun c => iteF ?_)⟩
      · have hyn : y ≠ .non := fun e => by rw [e] at c; simp at c
        obtain ⟨r, er, efr⟩ : ∃ r, rs.find? (inR (i : Int)) = some r ∧ findR rs (i : Int) = regD r := by
          unfold findR at dy2 ⊢
          cases e : rs.find? (inR (i : Int)) with
          | none => rw [e] at dy2; cases dy2; exact absurd rfl hyn
          | some r => exact ⟨r, rfl, rfl⟩
        rw [efr] at dy2
        have hr5 := (hok r (List.mem_of_find?_eq_some er)).1
        obtain ⟨pr, zs, rfl, hzs, dzs⟩ := (dy2.keep (KT.same s5)).ts
        obtain ⟨ve, e2, k2⟩ := dzs.it 2 (ints_get (r := r) (i := 2) (by omega))
        cases k2.i
        obtain ⟨pu, bv, rfl, hbv, dbv⟩ := du.ts
        obtain rfl := dbv.ints
        have hent : entL rs (i : Int) = [r.getD 2 0] := by unfold entL; rw [er]
        refine ⟨_, rfl, x, nm, ds, rfl, dD2.keep (KT.same s5), _, rfl, ite3 (fun c2 => ?_) (fun c2 => iteF ?_)⟩
        · refine ⟨_, rfl, _, _, _, _, rfl, rfl, hzs, e2, _, rfl, pu, _, rfl, .inr hbv, rfl, flat_ints _, _, rfl, ?_⟩
          rw [inV_int]
          have hfl : (canon (folL (.tuple (.str nm :: ds)) (i : Int))).length ≤ 2 := by
            exact Nat.le_trans canon_len folL_len
          by_cases c3 : r.getD 2 0 ∈ canon (folL (.tuple (.str nm :: ds)) (i : Int))
          · rw [show (!decide (r.getD 2 0 ∈ canon (folL (.tuple (.str nm :: ds)) (i : Int)))) = false by rw [decide_eq_true c3]; rfl]
            refine iteF ⟨_, rfl, .inl ⟨rfl, _, SqL.of hW5⟩, _, rfl, W, ws, _, rfl, rfl, hW5, by omega, ?_⟩
            refine ⟨_, _, _, _, _, rfl, upd_same, by rw [upd_ne hWL.symm]; exact hL5, fin (Same.refl _) (noadd ?_), sUpd ss5 nW, kkf (Same.refl _)⟩
            refine (canon_uniq canon_sorted fun k => ?_).symm
            rw [mem_canon]
            unfold wayL
            rw [show inV (.str (nmOf (.tuple (.str nm :: ds)))) rss = true from c2, if_pos rfl, hent]
            rw [mem_canon] at c3
            simp only [List.mem_append, List.mem_singleton]
            constructor
            · exact fun h => .inl h
            · rintro (h | h)
              · exact h
              · rw [h]; exact c3
          · rw [show (!decide (r.getD 2 0 ∈ canon (folL (.tuple (.str nm :: ds)) (i : Int)))) = true by rw [decide_eq_false c3]; rfl]
            refine iteT ⟨_, rfl, _, _, _, _, rfl, rfl, hzs, e2, _, rfl, pu, _, rfl, .inl hbv, (by simp; omega), fun l nl => ?_⟩
            refine ⟨l, r.getD 2 0 :: canon (folL (.tuple (.str nm :: ds)) (i : Int)), rfl, SqL.of (by rw [upd_same]; simp), (by simp; omega), fun ns' l2 pm ris nl2 => ⟨l2, ns'.map V.int, rfl, .inl ⟨SqL.of upd_same, fun l3 nl3 => ?_⟩⟩⟩
            have s6 := sN (sN (sN (Same.refl _) nl) nl2) nl3 (o := .tup (ns'.map V.int))
            have hW6 := s6 _ _ hW5
            have hns : ns' = canon (wayL (.tuple (.str nm :: ds)) rs (i : Int)) := by
              refine canon_uniq ?_ fun k => ?_
              · refine lt_of_le_nodup ns' ris (pm.nodup_iff.mpr (List.nodup_cons.mpr ⟨c3, ?_⟩))
                exact canon_sorted.imp fun h => by omega
              · rw [pm.mem_iff, List.mem_cons, mem_canon]
                unfold wayL
                rw [show inV (.str (nmOf (.tuple (.str nm :: ds)))) rss = true from c2, if_pos rfl, hent]
                simp only [List.mem_append, List.mem_singleton]
                constructor
                · rintro (h | h)
                  · exact .inr h
                  · exact .inl h
                · rintro (h | h)
                  · exact .inr h
                  · exact .inl h
            have d6 := lay nl3 (dts_ints (K := K) ns')
            rw [hns, ← hw0] at d6
            rw [← hns] at d6
            refine ⟨_, rfl, .inl ⟨rfl, _, SqL.of hW6⟩, _, rfl, W, ws, _, rfl, rfl, hW6, by omega, ?_⟩
            exact ⟨_, _, _, _, _, rfl, upd_same, by rw [upd_ne hWL.symm]; exact s6 _ _ hL5, fin s6 d6, sUpd (sTr ss5 s6) nW, kkf s6⟩
        · refine ⟨_, rfl, .inl ⟨rfl, _, SqL.of hW5⟩, _, rfl, W, ws, _, rfl, rfl, hW5, by omega, ?_⟩
          refine ⟨_, _, _, _, _, rfl, upd_same, by rw [upd_ne hWL.symm]; exact hL5, fin (Same.refl _) (noadd ?_), sUpd ss5 nW, kkf (Same.refl _)⟩
          unfold wayL
          rw [show inV (.str (nmOf (.tuple (.str nm :: ds)))) rss = false from c2, if_neg (by decide), List.append_nil]
      · refine ⟨_, rfl, .inl ⟨rfl, _, SqL.of hW5⟩, _, rfl, W, ws, _, rfl, rfl, hW5, by omega, ?_⟩
        refine ⟨_, _, _, _, _, rfl, upd_same, by rw [upd_ne hWL.symm]; exact hL5, fin (Same.refl _) (noadd ?_), sUpd ss5 nW, kkf (Same.refl _)⟩
        have hyn : y = .non := by
          by_cases e : y = .non
          · exact e
          · rw [decide_eq_false e] at c; cases c
        have hno : entL rs (i : Int) = [] := by
          unfold findR at dy2
          unfold entL
          cases e : rs.find? (inR (i : Int)) with
          | none => rfl
          | some r => rw [e, hyn] at dy2; cases dy2
        unfold wayL
        rw [hno]
        simp
    · rintro σ H2 ⟨ws, o2, o3, o4, o5, rfl, hW, hL2, hws, ss, kk⟩
      rw [hul] at hws
      exact ⟨_, rfl, W, ws, rfl, .inl ⟨SqL.of hW, fun pw npw => q _ _ (lay npw hws) (sN ss npw)⟩⟩
end

/-! ### the draws: _law_start, _law_take -/
def sL (g : Addr) (d s2 s3 s4 s5 s6 : Int) : List V := [.ref g, .int d, .int s2, .int s3, .int s4, .int s5, .int s6, .int 0, .int 0, .int 0, .int 0]
def StAt (H : Hp) (st g : Addr) : Prop := ∃ (gs : List Int) (d s2 s3 s4 s5 s6 : Int), H st = some (.lst (sL g d s2 s3 s4 s5 s6)) ∧ H g = some (.lst (gs.map V.int))
def Fr2 (st g : Addr) (H H' : Hp) : Prop := ∀ b o, H b = some o → b ≠ st → b ≠ g → H' b = some o
theorem StAt.ne {H : Hp} {st g : Addr} (h : StAt H st g) : st ≠ g := by
  obtain ⟨gs, d, s2, s3, s4, s5, s6, h1, h2⟩ := h
  refine ne_of h1 h2 fun e => ?_
  injection e with e
  cases gs with
  | nil => exact nomatch e
  | cons x r => injection e with e _; exact nomatch e
theorem fr2_refl {st g : Addr} {H : Hp} : Fr2 st g H H := fun _ _ e _ _ => e
theorem fr2_trans {st g : Addr} {H H1 H2 : Hp} (x : Fr2 st g H H1) (y : Fr2 st g H1 H2) : Fr2 st g H H2 := fun b o e n1 n2 => y b o (x b o e n1 n2) n1 n2
theorem fr2_st {st g : Addr} {H H1 : Hp} {o : HO} (x : Fr2 st g H H1) : Fr2 st g H (upd H1 st o) := fun b u e n1 n2 => by
  rw [upd_ne n1]; exact x b u e n1 n2
theorem fr2_g {st g : Addr} {H H1 : Hp} {o : HO} (x : Fr2 st g H H1) : Fr2 st g H (upd H1 g o) := fun b u e n1 n2 => by
  rw [upd_ne n2]; exact x b u e n1 n2
theorem fr2_new {st g p : Addr} {H H1 : Hp} {o : HO} (x : Fr2 st g H H1) (n : H1 p = none) : Fr2 st g H (upd H1 p o) := fun b u e n1 n2 => by
  rw [upd_ne (ne_of_none (x b u e n1 n2) n)]; exact x b u e n1 n2
theorem st_new {st g p : Addr} {H : Hp} {o : HO} (x : StAt H st g) (n : H p = none) : StAt (upd H p o) st g := by
  obtain ⟨gs, d, s2, s3, s4, s5, s6, h1, h2⟩ := x
  exact ⟨gs, d, s2, s3, s4, s5, s6, by rw [upd_ne (ne_of_none h1 n)]; exact h1, by rw [upd_ne (ne_of_none h2 n)]; exact h2⟩
theorem st_same {st g : Addr} {H H1 : Hp} (x : StAt H st g) (s : Same H H1) : StAt H1 st g := by
  obtain ⟨gs, d, s2, s3, s4, s5, s6, h1, h2⟩ := x
  exact ⟨gs, d, s2, s3, s4, s5, s6, s _ _ h1, s _ _ h2⟩
theorem fr2_same {st g : Addr} {H H1 : Hp} (s : Same H H1) : Fr2 st g H H1 := fun b o e _ _ => s b o e
/-- what was there ahead of the state -/
theorem same_fr2 {st g : Addr} {H0 H H1 : Hp} (s : Same H0 H) (x : Fr2 st g H H1) (n1 : H0 st = none) (n2 : H0 g = none) : Same H0 H1 := fun b o e => x b o (s b o e) (ne_of_none e n1) (ne_of_none e n2)
def spStart (K : PySem.W.Frag) : Sp := fun vs H Q _ => ∃ (sa : Addr) (ns : List Int), vs = [.ref sa] ∧ SqL K H sa (ns.map V.int) ∧ ns.length ≤ 63 ∧ ∀ (st g : Addr) (H' : Hp), H st = none → H g = none → StAt H' st g → Same H H' → Q (.ref st) H'
def spTake : Sp := fun vs H Q _ => ∃ (st g : Addr) (m : Int), vs = [.ref st, .int m] ∧ StAt H st g ∧ 0 < m ∧ m < 2 ^ 62 ∧ ∀ (v : Int) (H' : Hp), 0 ≤ v → v < m → StAt H' st g → Fr2 st g H H' → Q (.int v) H'
section
variable {P : Program} {w : World} {K : PySem.W.Frag} {mg : Str → Option Value} {base : Heap} {a : Ad}
theorem ok_law_take (T : Txt K mg a) : FnOk P w K mg base CX0 1 a.f_law_take a.d_law_take ["state", "many"] spTake := by
  refine T.F__law_take.ok sc_law_take (fun vs H Q E h => ?_) (fun cdv A outer s H vs Q E hr h => ?_)
  · obtain ⟨_, _, _, rfl, _⟩ := h; rfl
  · obtain ⟨st, g, m, rfl, hSt, hm, hm2, q⟩ := h
    have hdv : ∀ i, CDivW i m := fun i => wide_div (b := 62) hm (by omega) (by decide) (by decide)
    have nsg := hSt.ne
    refine ⟨_, (C8.pss_cut (ps_if (PW.pt (pw_and (pt_cmpR op_eq (pe_ix ix_list (pv 0) pe_int (fun _ _ => rfl)) pe_int (nomark _)) (pw_and1 (pt_cmpR op_gt (pe_callB call_len_seq (by rfl) T.b_len (by decide +kernel) (pa_cons (pe_ix ix_list (pv 0) pe_int (fun _ _ => rfl)) pa_nil)) pe_int (nomark _))))) (pss_one (ps_asg (pe_bm PySem.F.plainAttrs_list PySem.F.slot_list_pop PySem.F.type_list_pop mt_popAt (pe_ix ix_list (pv 0) pe_int (fun _ _ => rfl)) (pa_cons pe_int pa_nil)) (pg_sub (pv 0) pe_int set_list))) pss_nil)
      (pss_cons (ps_if (pt_cmpR op_gt (pe_ix ix_list (pv 0) pe_int (fun _ _ => rfl)) pe_int (nomark _)) (pss_cons (ps_set (i := 2) sc_law_take.nd rfl (Or.inl rfl) (pe_op op_mod (pe_callTy call_int1 (by rfl) T.b_int (by decide +kernel) (pa_cons (pe_ix ix_list (pv 0) pe_int (fun _ _ => rfl)) pa_nil)) (pv 1)))
      (pss_cons (ps_asg (pe_op op_fdivW (pe_ix ix_list (pv 0) pe_int (fun _ _ => rfl)) (pv 1)) (pg_sub (pv 0) pe_int set_list))
      (pss_one (ps_ret (pv 2))))) pss_nil)
      (pss_cons (ps_asg (pe_op op_mod (pe_callTy call_int1 (by rfl) T.b_int (by decide +kernel) (pa_cons (pe_op op_mul (pe_ix ix_list (pv 0) pe_int (fun _ _ => rfl)) pe_int) pa_nil)) pe_int) (pg_sub (pv 0) pe_int set_list))
      (pss_cons (ps_asg (pe_op op_add (pe_ix ix_list (pv 0) pe_int (fun _ _ => rfl)) pe_int) (pg_sub (pv 0) pe_int set_list))
      (pss_cons (ps_set (i := 3) sc_law_take.nd rfl (Or.inl rfl) (pe_op op_mod (pe_callTy call_int1 (by rfl) T.b_int (by decide +kernel) (pa_cons (pe_op op_add (pe_op op_mul (pe_ix ix_list (pv 0) pe_int (fun _ _ => rfl)) pe_int) (pe_op op_mul (pe_ix ix_list (pv 0) pe_int (fun _ _ => rfl)) pe_int)) pa_nil)) pe_int))
      (pss_one (ps_ret (pe_op op_mod (pe_callTy call_int1 (by rfl) T.b_int (by decide +kernel) (pa_cons (pv 3) pa_nil)) (pv 1))))))))), ?_⟩
    obtain ⟨gs, d, s2, s3, s4, s5, s6, h1, h2⟩ := hSt
    refine ⟨fun σ H1 => σ = [some (.ref st), some (.int m), none, none] ∧ ∃ (gs : List Int) (d s2 s3 s4 s5 s6 : Int), H1 st = some (.lst (sL g d s2 s3 s4 s5 s6)) ∧ H1 g = some (.lst (gs.map V.int)) ∧ Fr2 st g H H1, ?_, ?_⟩
    · refine ⟨_, rfl, _, _, _, _, rfl, rfl, SqL.of h1, rfl, rfl, _, rfl, ite3 (fun e1 => ?_) (fun e1 => ?_)⟩
      · refine ⟨_, rfl, _, _, _, _, rfl, rfl, SqL.of h1, rfl, _, _, rfl, .inl (SqL.of h2), _, _, rfl, rfl, _, rfl, ite3 (fun e2 => ?_) (fun e2 => ?_)⟩
        · cases gs with
          | nil => simp at e2
          | cons x r =>
            refine ⟨_, rfl, _, _, _, _, rfl, rfl, SqL.of h1, rfl, .inl ⟨rfl, _, SqL.of h2⟩, g, _, 0, 0, V.int x, rfl, rfl, h2, by decide, by decide, by simp [seqIndex?], by simp, ?_⟩
            have h1' : upd H g (.lst (List.eraseIdx (List.map V.int (x :: r)) 0)) st = some (.lst (sL g d s2 s3 s4 s5 s6)) := by rw [upd_ne nsg]; exact h1
            refine ⟨_, rfl, _, _, _, _, rfl, rfl, h1', rfl, ?_⟩
            exact ⟨rfl, r, x, s2, s3, s4, s5, s6, upd_same, by rw [upd_ne nsg.symm, upd_same]; rfl, fr2_st (fr2_g fr2_refl)⟩
        · exact ⟨rfl, gs, d, s2, s3, s4, s5, s6, h1, h2, fr2_refl⟩
      · exact iteF ⟨rfl, gs, d, s2, s3, s4, s5, s6, h1, h2, fr2_refl⟩
    clear h1 h2 d s2 s3 s4 s5 s6 gs
    rintro σ H1 ⟨rfl, gs, d, s2, s3, s4, s5, s6, h1, h2, f⟩
    refine ⟨_, rfl, _, _, _, _, rfl, rfl, SqL.of h1, rfl, _, _, rfl, rfl, _, rfl, ite3 (fun e1 => ?_) (fun e1 => ?_)⟩
    · refine ⟨_, rfl, _, _, _, _, rfl, rfl, SqL.of h1, rfl, .inl ⟨_, rfl, _, rfl, _, _, rfl, rfl, hm, ?_⟩⟩
      refine ⟨_, rfl, _, _, _, _, rfl, rfl, SqL.of h1, rfl, _, rfl, _, _, rfl, rfl, hdv _, _, rfl, _, _, _, _, rfl, rfl, h1, rfl, ?_⟩
      refine ⟨_, rfl, q _ _ (Int.emod_nonneg _ (by omega)) (Int.emod_lt_of_pos _ hm) ⟨gs, _, _, _, _, _, _, upd_same, by rw [upd_ne nsg.symm]; exact h2⟩ (fr2_st f)⟩
    · refine ⟨_, rfl, _, _, _, _, rfl, rfl, SqL.of h1, rfl, _, _, rfl, rfl, .inr (by decide), .inl ⟨_, rfl, _, _, rfl, rfl, (by show (0 : Int) < 2147483647; decide), _, rfl, _, _, _, _, rfl, rfl, h1, rfl, ?_⟩⟩
      refine ⟨_, rfl, _, _, _, _, rfl, rfl, SqL.of upd_same, rfl, _, _, rfl, rfl, _, rfl, _, _, _, _, rfl, rfl, upd_same, rfl, ?_⟩
      rw [upd_upd]
      refine ⟨_, rfl, _, _, _, _, rfl, rfl, SqL.of upd_same, rfl, _, _, rfl, rfl, .inr (by decide), _, rfl, _, _, _, _, rfl, rfl, SqL.of upd_same, rfl, _, _, rfl, rfl, .inr (by decide), _, _, rfl, rfl, .inl ⟨_, rfl, _, _, rfl, rfl, (by show (0 : Int) < 2147483629; decide), ?_⟩⟩
      refine ⟨_, rfl, .inl ⟨_, rfl, _, rfl, _, _, rfl, rfl, hm, ?_⟩⟩
      exact q _ _ (Int.emod_nonneg _ (by omega)) (Int.emod_lt_of_pos _ hm) ⟨gs, _, _, _, _, _, _, upd_same, by rw [upd_ne nsg.symm]; exact h2⟩ (fr2_st f)
end

section
variable {P : Program} {w : World} {K : PySem.W.Frag} {mg : Str → Option Value} {base : Heap} {a : Ad}
theorem ok_law_start (T : Txt K mg a) : FnOk P w K mg base CX0 2 a.f_law_start a.d_law_start ["script"] (spStart K) := by
  have G_law_take : FnOk P w K mg base CX0 1 _ _ _ _ := ok_law_take T
  refine T.F__law_start.ok sc_law_start (fun vs H Q E h => ?_) (fun cdv A outer s H vs Q E hr h => ?_)
  · obtain ⟨_, _, rfl, _⟩ := h; rfl
  · obtain ⟨sa, ns, rfl, hS, hl, q⟩ := h
    refine ⟨_, (pss_cons (ps_set (i := 1) sc_law_start.nd rfl (Or.inl rfl) (pe_lst pa_nil))
      (pss_cons (ps_set (i := 2) sc_law_start.nd rfl (Or.inl rfl) pe_int)
      (pss_cons (ps_for PassesOwn.never rfl (pi_list (pv 0)) (pg_name (i := 3) sc_law_start.nd rfl (Or.inl rfl)) (pss_cons (ps_set (i := 2) sc_law_start.nd rfl (Or.inl rfl) (pe_op op_mod (pe_callTy call_int1 (by rfl) T.b_int (by decide +kernel) (pa_cons (pe_op op_add (pe_op op_add (pe_op op_mul (pv 2) pe_int) (pv 3)) pe_int) pa_nil)) pe_int))
      (pss_one (ps_if (pt_cmpR op_ge (pv 3) (pe_op op_pow pe_int pe_int) (nomark _)) (pss_one (ps_expr (pe_bm PySem.F.plainAttrs_list PySem.F.slot_list_append PySem.F.type_list_append mt_append (pv 1) (pa_cons (pv 3) pa_nil)))) pss_nil))))
      (C8.pss_cut (ps_set (i := 4) sc_law_start.nd rfl (Or.inl rfl) (pe_lst (pa_cons (pv 1) (pa_cons pe_int (pa_cons (pe_op op_add pe_int (pe_op op_mod (pe_callTy call_int1 (by rfl) T.b_int (by decide +kernel) (pa_cons (pv 2) pa_nil)) pe_int)) (pa_cons pe_int (pa_cons pe_int (pa_cons pe_int (pa_cons pe_int (pa_cons pe_int (pa_cons pe_int (pa_cons pe_int (pa_cons pe_int pa_nil)))))))))))))
      (C8.pss_cut (ps_asg (pe_op op_add pe_int (pe_call G_law_take (hr.mono (by decide)) rfl T.g__law_take T.k__law_take T.bd__law_take .nil pass0 (pa_cons (pv 4) (pa_cons pe_int pa_nil)))) (pg_sub (pv 4) pe_int set_list))
      (pss_cons (ps_asg (pe_call G_law_take (hr.mono (by decide)) rfl T.g__law_take T.k__law_take T.bd__law_take .nil pass0 (pa_cons (pv 4) (pa_cons pe_int pa_nil))) (pg_sub (pv 4) pe_int set_list))
      (pss_one (ps_ret (pv 4))))))))), ?_⟩
    refine ⟨by decide, fun g ng => ⟨_, rfl, sa, rfl, ⟨_, (Same.seq (sN (Same.refl H) ng) hS)⟩, for_list (K := K) (a := sa) (xs := ns.map V.int)
      (fun i σ H1 => ∃ (z : Int) (x : Option V) (gs : List Int), σ = [some (.ref sa), some (.ref g), some (.int z), x, none] ∧ H1 g = some (.lst (gs.map V.int)) ∧ gs.length ≤ i ∧ Same H H1)
      ⟨11, none, [], rfl, upd_same, Nat.le_refl _, sN (Same.refl H) ng⟩ (fun i σ H1 _ ⟨_, _, _, _, _, _, ss⟩ => ss.seq hS) ?_ ?_⟩⟩
    · rintro i x σ H1 hi ⟨z, x0, gs, rfl, hg, hgl, ss⟩
      have hilt : i < ns.length := by
        have := (List.getElem?_eq_some_iff.mp hi).1
        simpa using this
      obtain ⟨c, rfl⟩ : ∃ c, x = V.int c := by
        rw [List.getElem?_map] at hi
        cases e : ns[i]? with
        | none => rw [e] at hi; cases hi
        | some c => rw [e] at hi; exact ⟨c, (Option.some.inj hi).symm⟩
      refine ⟨_, rfl, _, _, rfl, rfl, .inr (by decide), _, rfl, _, _, rfl, rfl, _, _, rfl, rfl, .inl ⟨_, rfl, _, _, rfl, rfl, (by show (0 : Int) < 2147483647; decide), ?_⟩⟩
      refine ⟨_, rfl, _, _, rfl, rfl, ⟨by decide, by decide, by decide⟩, _, _, rfl, rfl, _, rfl, ite3 (fun e => ?_) (fun e => ?_)⟩
      · refine ⟨_, rfl, .inl ⟨rfl, _, SqL.of hg⟩, _, rfl, g, _, _, rfl, rfl, hg, small1000 (by simp; omega), ?_⟩
        exact ⟨_, _, gs ++ [c], rfl, by rw [upd_same, List.map_append]; rfl, by rw [List.length_append]; simp; omega, sUpd ss ng⟩
      · exact ⟨_, _, gs, rfl, hg, by omega, ss⟩
    · rintro σ H1 ⟨z, x0, gs, rfl, hg, _, ss⟩
      refine ⟨fun σ H' => ∃ st y, H st = none ∧ StAt H' st g ∧ Same H H' ∧ σ = [some (.ref sa), some (.ref g), y, x0, some (.ref st)], ?_, ?_⟩
      · refine ⟨_, rfl, _, rfl, .inl ⟨_, rfl, _, _, rfl, rfl, (by show (0 : Int) < 2147483600; decide), _, _, rfl, rfl, (by show 11 ≤ sizeLine; decide), fun st nst => ?_⟩⟩
        refine ⟨st, _, ss.free nst, ⟨gs, _, _, _, _, _, _, upd_same, ?_⟩, sN ss nst, rfl⟩
        rw [upd_ne (ne_of_none hg nst)]
        exact hg
      clear hg ss
      rintro σ H2 ⟨st, y, nst, S, ss, rfl⟩
      refine ⟨fun σ H' => StAt H' st g ∧ Same H H' ∧ σ = [some (.ref sa), some (.ref g), y, x0, some (.ref st)], ?_, ?_⟩
      · refine ⟨_, rfl, st, g, 900, rfl, S, by decide, by decide, fun v H3 v0 v1 S3 F3 => ⟨_, _, rfl, rfl, ?_⟩⟩
        obtain ⟨gs, d, s2, s3, s4, s5, s6, h1, h2⟩ := id S3
        refine ⟨_, rfl, _, _, _, 5, rfl, rfl, h1, rfl, ?_⟩
        have s3' := same_fr2 ss F3 nst ng
        exact ⟨⟨gs, d, s2, s3, s4, _, s6, upd_same, by rw [upd_ne S3.ne.symm]; exact h2⟩, sUpd s3' nst, rfl⟩
      clear S ss
      rintro σ H3 ⟨S, ss, rfl⟩
      refine ⟨_, rfl, st, g, 80, rfl, S, by decide, by decide, fun v H3 v0 v1 S3 F3 => ?_⟩
      obtain ⟨gs, d, s2, s3, s4, s5, s6, h1, h2⟩ := id S3
      refine ⟨_, rfl, _, _, _, 6, rfl, rfl, h1, rfl, ?_⟩
      have s3' := same_fr2 ss F3 nst ng
      exact ⟨_, rfl, q st g _ nst ng ⟨gs, d, s2, s3, s4, s5, _, upd_same, by rw [upd_ne S3.ne.symm]; exact h2⟩ (sUpd s3' nst)⟩
end

/-! ### instructions, in plain terms -/
def nmB (k : Nat) : Str := (["add", "sub", "mul", "div", "mod", "rem"] : List Str).getD k "add"
def nmU (k : Bool) : Str := if k = true then "abs" else "neg"
def nmC (k : Bool) : Str := if k = true then "equal" else "less"
inductive In where
  | mv (d : Int) (x : Op)
  | un (k : Bool) (d : Int) (x : Op) (p : Int)
  | bi (k : _root_.Fin 6) (d : Int) (x y : Op) (p : Int)
  | cm (k : Bool) (d : Int) (x y : Op)
  | ck (x : Op) (lo hi p : Int)
  | pu (x : Op)
  | ld (d h c n : Int) (e : Op)
  | st (h c n : Int) (e x : Op)
  | jm (t : Int)
  | br (x : Op) (t : Int)
  | ca (o h : Int) (xs : List Op) (rs : List Int) (p : Int)
  | ra (n p : Int)
  | ag (x y : Op)
  | ge (d p : Int)
  | re (xs : List Op)
  | ti
namespace In
def nm : In → Str
  | mv .. => "move"
  | un k .. => nmU k
  | bi k .. => nmB k.val
  | cm k .. => nmC k
  | ck .. => "check"
  | pu .. => "put"
  | ld .. => "load"
  | st .. => "store"
  | jm .. => "jump"
  | br .. => "branch"
  | ca .. => "call"
  | ra .. => "raise"
  | ag .. => "again"
  | ge .. => "get"
  | re .. => "return"
  | ti => "tick"
def ds : In → List PyData
  | mv d x => [.int d, opD x]
  | un _ d x p => [.int d, opD x, .int p]
  | bi _ d x y p => [.int d, opD x, opD y, .int p]
  | cm _ d x y => [.int d, opD x, opD y]
  | ck x lo hi p => [opD x, .int lo, .int hi, .int p]
  | pu x => [opD x]
  | ld d h c n e => [.int d, .int h, .int c, .int n, opD e]
  | st h c n e x => [.int h, .int c, .int n, opD e, opD x]
  | jm t => [.int t]
  | br x t => [opD x, .int t]
  | ca o h xs rs p => [.int o, .int h, .tuple (xs.map opD), .tuple (rs.map .int), .int p]
  | ra n p => [.int n, .int p]
  | ag x y => [opD x, opD y]
  | ge d p => [.int d, .int p]
  | re xs => [.tuple (xs.map opD)]
  | ti => []
def D (i : In) : PyData := .tuple (.str i.nm :: i.ds)
def ops : In → List Op
  | mv _ x => [x]
  | un _ _ x _ => [x]
  | bi _ _ x y _ => [x, y]
  | cm _ _ x y => [x, y]
  | ck x _ _ _ => [x]
  | pu x => [x]
  | ld _ _ _ _ e => [e]
  | st _ _ _ e x => [e, x]
  | jm _ => []
  | br x _ => [x]
  | ca _ _ xs _ _ => xs
  | ra _ _ => []
  | ag x y => [x, y]
  | ge _ _ => []
  | re xs => xs
  | ti => []
def wrt : In → List Int
  | mv d _ => [d]
  | un _ d _ _ => [d]
  | bi _ d _ _ _ => [d]
  | cm _ d _ _ => [d]
  | ld d _ _ _ _ => [d]
  | ge d _ => [d]
  | ca _ _ _ rs _ => rs
  | _ => []
/-- the instructions behind it, in the order of the law -/
def fol (ix : Int) : In → List Int
  | jm t => [t]
  | br _ t => [ix + 1, t]
  | ra _ _ => []
  | ag _ _ => []
  | re _ => []
  | _ => [ix + 1]
def can : In → Bool
  | un .. => true
  | bi .. => true
  | ck .. => true
  | ca .. => true
  | ra .. => true
  | ag .. => true
  | ge .. => true
  | _ => false
def OpOk (r : Int) (g : Op) : Prop := g.1 = ("int" : Str) ∨ (g.1 = ("reg" : Str) ∧ 0 ≤ g.2 ∧ g.2 < r)
def rg (r x : Int) : Prop := 0 ≤ x ∧ x < r
structure ok (r n i : Int) (x : In) : Prop where
  o : ∀ g ∈ x.ops, OpOk r g
  w : ∀ d ∈ x.wrt, rg r d
  f : ∀ t ∈ x.fol i, rg n t
  l : x.ops.length ≤ 10
  m : x.wrt.length ≤ 10
theorem nmU_c : ∀ k : Bool, nmU k ≠ "call" ∧ nmU k ≠ "return" ∧ nmU k ≠ "jump" ∧ nmU k ≠ "branch" ∧ inV (.str (nmU k)) wrs = true ∧ inV (.str (nmU k)) rss = true ∧ inV (.str (nmU k)) lvs = false := by decide +kernel
theorem nmC_c : ∀ k : Bool, nmC k ≠ "call" ∧ nmC k ≠ "return" ∧ nmC k ≠ "jump" ∧ nmC k ≠ "branch" ∧ inV (.str (nmC k)) wrs = true ∧ inV (.str (nmC k)) rss = false ∧ inV (.str (nmC k)) lvs = false := by decide +kernel
theorem nmB_c : ∀ k : _root_.Fin 6, nmB k.val ≠ "call" ∧ nmB k.val ≠ "return" ∧ nmB k.val ≠ "jump" ∧ nmB k.val ≠ "branch" ∧ inV (.str (nmB k.val)) wrs = true ∧ inV (.str (nmB k.val)) rss = true ∧ inV (.str (nmB k.val)) lvs = false := by decide +kernel
theorem opsOk (x : In) : OpsOk x.nm (.str x.nm :: x.ds) (x.ops.map opD) := by
  cases x with
  | un k d x p => exact .inr (.inr ⟨(nmU_c k).1, (nmU_c k).2.1, rfl⟩)
  | cm k d x y => exact .inr (.inr ⟨(nmC_c k).1, (nmC_c k).2.1, rfl⟩)
  | bi k d x y p => exact .inr (.inr ⟨(nmB_c k).1, (nmB_c k).2.1, rfl⟩)
  | ca o h xs rs p => exact .inl ⟨rfl, rfl⟩
  | re xs => exact .inr (.inl ⟨rfl, rfl⟩)
  | _ => exact .inr (.inr ⟨by dsimp only [In.nm]; decide +kernel, by dsimp only [In.nm]; decide +kernel, rfl⟩)
theorem wrOk (x : In) : WrOk x.nm (.str x.nm :: x.ds) (x.wrt.map .int) := by
  cases x with
  | un k d x p => exact .inr (.inl ⟨(nmU_c k).1, (nmU_c k).2.2.2.2.1, d, rfl, rfl⟩)
  | cm k d x y => exact .inr (.inl ⟨(nmC_c k).1, (nmC_c k).2.2.2.2.1, d, rfl, rfl⟩)
  | bi k d x y p => exact .inr (.inl ⟨(nmB_c k).1, (nmB_c k).2.2.2.2.1, d, rfl, rfl⟩)
  | ca o h xs rs p => exact .inl ⟨rfl, rfl⟩
  | mv d x => exact .inr (.inl ⟨by dsimp only [In.nm]; decide +kernel, by dsimp only [In.nm]; decide +kernel, d, rfl, rfl⟩)
  | ld d h c n e => exact .inr (.inl ⟨by dsimp only [In.nm]; decide +kernel, by dsimp only [In.nm]; decide +kernel, d, rfl, rfl⟩)
  | ge d p => exact .inr (.inl ⟨by dsimp only [In.nm]; decide +kernel, by dsimp only [In.nm]; decide +kernel, d, rfl, rfl⟩)
  | _ => exact .inr (.inr ⟨by dsimp only [In.nm]; decide +kernel, by dsimp only [In.nm]; decide +kernel, rfl⟩)
theorem canOk (x : In) : inV (.str x.nm) rss = x.can := by
  cases x with
  | un k d x p => exact (nmU_c k).2.2.2.2.2.1
  | cm k d x y => exact (nmC_c k).2.2.2.2.2.1
  | bi k d x y p => exact (nmB_c k).2.2.2.2.2.1
  | _ => dsimp only [In.nm, In.can]; decide +kernel
/-- as the program lists them: ascending, each once -/
def folP (ix : Int) : In → List Int
  | jm t => [t]
  | br _ t => if t = ix + 1 then [ix + 1] else [mn t (ix + 1), mx t (ix + 1)]
  | ra _ _ => []
  | ag _ _ => []
  | re _ => []
  | _ => [ix + 1]
theorem foOk (x : In) (ix : Int) : FoOk x.nm (.str x.nm :: x.ds) ix ((x.folP ix).map .int) := by
  cases x with
  | un k d x p => exact .inr (.inr (.inr (.inr ⟨(nmU_c k).2.2.2.2.2.2, (nmU_c k).2.2.1, (nmU_c k).2.2.2.1, rfl⟩)))
  | cm k d x y => exact .inr (.inr (.inr (.inr ⟨(nmC_c k).2.2.2.2.2.2, (nmC_c k).2.2.1, (nmC_c k).2.2.2.1, rfl⟩)))
  | bi k d x y p => exact .inr (.inr (.inr (.inr ⟨(nmB_c k).2.2.2.2.2.2, (nmB_c k).2.2.1, (nmB_c k).2.2.2.1, rfl⟩)))
  | jm t => exact .inr (.inl ⟨by dsimp only [In.nm]; decide +kernel, rfl, t, rfl, rfl⟩)
  | br x t =>
    by_cases c : t = ix + 1
    · exact .inr (.inr (.inr (.inl ⟨by dsimp only [In.nm]; decide +kernel, by dsimp only [In.nm]; decide +kernel, rfl, t, rfl, c, by show ((if t = ix + 1 then _ else _ : List Int)).map PyData.int = _; rw [if_pos c]; rfl⟩)))
    · exact .inr (.inr (.inl ⟨by dsimp only [In.nm]; decide +kernel, by dsimp only [In.nm]; decide +kernel, rfl, t, rfl, c, by show ((if t = ix + 1 then _ else _ : List Int)).map PyData.int = _; rw [if_neg c]; rfl⟩))
  | ra n p => exact .inl ⟨by dsimp only [In.nm]; decide +kernel, rfl⟩
  | ag x y => exact .inl ⟨by dsimp only [In.nm]; decide +kernel, rfl⟩
  | re xs => exact .inl ⟨by dsimp only [In.nm]; decide +kernel, rfl⟩
  | _ => exact .inr (.inr (.inr (.inr ⟨by dsimp only [In.nm]; decide +kernel, by dsimp only [In.nm]; decide +kernel, by dsimp only [In.nm]; decide +kernel, rfl⟩)))
theorem folP_mem (x : In) (ix t : Int) : t ∈ x.folP ix ↔ t ∈ x.fol ix := by
  cases x with
  | br x u =>
    show t ∈ (if u = ix + 1 then [ix + 1] else [mn u (ix + 1), mx u (ix + 1)]) ↔ t ∈ [ix + 1, u]
    unfold mn mx
    split
    · rename_i e; simp [e]
    · split <;> split <;> simp <;> omega
  | _ => exact Iff.rfl
end In

/-! ### tags: who owns an address (owner, sort, number) -/
abbrev Tg : Type := Addr → Nat × Nat × Nat
def tgN (τ : Tg) (p : Addr) (x : Nat × Nat × Nat) : Tg := fun b => if b = p then x else τ b
theorem tg_same {τ : Tg} {p : Addr} {x : Nat × Nat × Nat} : tgN τ p x p = x := if_pos rfl
theorem tg_ne {τ : Tg} {p b : Addr} {x : Nat × Nat × Nat} (h : b ≠ p) : tgN τ p x b = τ b := if_neg h
theorem ne_tag {τ : Tg} {p q : Addr} {x y : Nat × Nat × Nat} (h1 : τ p = x) (h2 : τ q = y) (h : x ≠ y) : p ≠ q := fun e => h (by rw [← h1, ← h2, e])
/-- a step that writes at the owners S alone -/
structure Stp (τ τ' : Tg) (S : List Nat) (H H' : Hp) : Prop where
  fr : ∀ b o, H b = some o → (τ b).1 ∉ S → H' b = some o
  ag : ∀ b, H b ≠ none → τ' b = τ b
  al : ∀ b, H b ≠ none → H' b ≠ none
theorem some_ne {H : Hp} {b : Addr} {o : HO} (h : H b = some o) : H b ≠ none := by rw [h]; exact fun z => nomatch z
namespace Stp
variable {τ τ' τ2 : Tg} {S S' : List Nat} {H H' H2 : Hp}
theorem refl : Stp τ τ S H H := ⟨fun _ _ h _ => h, fun _ _ => rfl, fun _ h => h⟩
theorem mono (h : Stp τ τ' S H H') (i : ∀ x ∈ S, x ∈ S') : Stp τ τ' S' H H' := ⟨fun b o e n => h.fr b o e fun m => n (i _ m), h.ag, h.al⟩
theorem tr (x : Stp τ τ' S H H') (y : Stp τ' τ2 S H' H2) : Stp τ τ2 S H H2 :=
  ⟨fun b o e n => y.fr b o (x.fr b o e n) (by rw [x.ag b (some_ne e)]; exact n), fun b e => (y.ag b (x.al b e)).trans (x.ag b e), fun b e => y.al b (x.al b e)⟩
theorem same (h : Same H H') : Stp τ τ S H H' := ⟨fun b o e _ => h b o e, fun _ _ => rfl, fun b e => by
  cases z : H b with
  | none => exact absurd z e
  | some o => exact some_ne (h b o z)⟩
theorem new {p : Addr} {o : HO} {x : Nat × Nat × Nat} (h : Stp τ τ' S H H') (n : H' p = none) : Stp τ (tgN τ' p x) S H (upd H' p o) :=
  h.tr ⟨fun b u e _ => by rw [upd_ne (ne_of_none e n)]; exact e, fun b e => tg_ne fun z => e (by rw [z]; exact n), fun b e => by
    rw [upd_ne fun z => e (by rw [z]; exact n)]; exact e⟩
theorem put {p : Addr} {o : HO} (h : Stp τ τ' S H H') (m : (τ' p).1 ∈ S) : Stp τ τ' S H (upd H' p o) :=
  h.tr ⟨fun b u e n => by rw [upd_ne fun z => n (by rw [z]; exact m)]; exact e, fun _ _ => rfl, fun b e => by
    by_cases z : b = p
    · rw [z, upd_same]; exact fun z => nomatch z
    · rw [upd_ne z]; exact e⟩
theorem at_ {b : Addr} {o : HO} {x : Nat × Nat × Nat} (h : Stp τ τ' S H H') (e : H b = some o) (t : τ b = x) (n : x.1 ∉ S) : H' b = some o ∧ τ' b = x :=
  ⟨h.fr b o e (by rw [t]; exact n), (h.ag b (some_ne e)).trans t⟩
end Stp
/-- H p = o, with its tag -/
def At (τ : Tg) (H : Hp) (p : Addr) (o : HO) (x : Nat × Nat × Nat) : Prop := H p = some o ∧ τ p = x
namespace At
variable {τ τ' : Tg} {S : List Nat} {H H' : Hp} {p q : Addr} {o u : HO} {x y : Nat × Nat × Nat}
theorem st (h : At τ H p o x) (s : Stp τ τ' S H H') (n : x.1 ∉ S) : At τ' H' p o x := s.at_ h.1 h.2 n
theorem put (h : At τ H p o x) (t : τ q = y) (n : x ≠ y) : At τ (upd H q u) p o x := ⟨by rw [upd_ne (ne_tag h.2 t n)]; exact h.1, h.2⟩
theorem set (t : τ p = x) : At τ (upd H p o) p o x := ⟨upd_same, t⟩
theorem new (h : At τ H p o x) (n : H q = none) : At (tgN τ q y) (upd H q u) p o x := ⟨by rw [upd_ne (ne_of_none h.1 n)]; exact h.1, (tg_ne (ne_of_none h.1 n)).trans h.2⟩
theorem mk : At (tgN τ p x) (upd H p o) p o x := ⟨upd_same, tg_same⟩
theorem same (h : At τ H p o x) (s : Same H H') : At τ H' p o x := ⟨s _ _ h.1, h.2⟩
end At
theorem Stp.sameN {τ τ' : Tg} {S : List Nat} {H H1 H2 : Hp} {p : Addr} {x : Nat × Nat × Nat} (h : Stp τ τ' S H H1) (s : Same H1 H2) (n : H1 p = none) : Stp τ (tgN τ' p x) S H H2 :=
  h.tr ⟨fun b o e _ => s b o e, fun b e => tg_ne fun z => e (by rw [z]; exact n), (Stp.same (τ := τ) (S := S) s).al⟩
theorem At.sameN {τ : Tg} {H H' : Hp} {p q : Addr} {o : HO} {x y : Nat × Nat × Nat} (h : At τ H p o x) (s : Same H H') (n : H q = none) : At (tgN τ q y) H' p o x := ⟨s _ _ h.1, (tg_ne (ne_of_none h.1 n)).trans h.2⟩
theorem At.in {τ : Tg} {H : Hp} {p : Addr} {o : HO} {x : Nat × Nat × Nat} (e : H p = some o) : At (tgN τ p x) H p o x := ⟨e, tg_same⟩
/-! ### slices -/
theorem cut_lo (xs : List V) (a : Nat) : cutV xs (some (a : Int)) none = xs.drop a := by
  unfold cutV
  rw [HT.sIx_nat, HT.sIx_none]
  by_cases h : a ≤ xs.length
  · rw [Nat.min_eq_left h, List.take_of_length_le (by rw [List.length_drop]; omega)]
  · rw [Nat.min_eq_right (by omega), List.drop_eq_nil_of_le (Nat.le_refl _), List.drop_eq_nil_of_le (show xs.length ≤ a by omega), List.take_nil]
theorem cut_hi (xs : List V) (b : Nat) : cutV xs none (some (b : Int)) = xs.take b := by
  unfold cutV
  rw [HT.sIx_nat, HT.sIx_none, List.drop_zero, Nat.sub_zero]
  by_cases h : b ≤ xs.length
  · rw [Nat.min_eq_left h]
  · rw [Nat.min_eq_right (by omega), List.take_of_length_le (Nat.le_refl _), List.take_of_length_le (show xs.length ≤ b by omega)]
theorem cut_mid (xs : List V) (a b : Nat) (h : a ≤ b) (h2 : b ≤ xs.length) : cutV xs (some (a : Int)) (some (b : Int)) = (xs.drop a).take (b - a) := by
  unfold cutV
  rw [HT.sIx_nat, HT.sIx_nat, Nat.min_eq_left (show a ≤ xs.length by omega), Nat.min_eq_left h2]
theorem rep_int (n : Nat) : (List.replicate n [V.int 0]).flatten = (List.replicate n (0 : Int)).map V.int := by
  induction n with
  | zero => rfl
  | succ n ih => rw [List.replicate_succ, List.flatten_cons, ih, List.replicate_succ]; rfl

/-! ### lists read and written -/
theorem at_map {ys : List Int} {j : Nat} (h : j < ys.length) : (ys.map V.int)[j]? = some (V.int (ys.getD j 0)) := by
  rw [List.getElem?_map, List.getD_eq_getElem?_getD, List.getElem?_eq_getElem h] <;> rfl
theorem set_int {ys : List Int} {j : Nat} {w : Int} : (ys.map V.int).set j (V.int w) = (ys.set j w).map V.int := by rw [List.map_set]
theorem rng_at {f : Nat → V} {n k : Nat} (h : k < n) : ((List.range n).map f)[k]? = some (f k) := by simp [h]
theorem rng_len {f : Nat → V} {n : Nat} : ((List.range n).map f).length = n := by simp
theorem rng_drop {f : Nat → V} {n : Nat} : ((List.range (n + 1)).map f).dropLast = (List.range n).map f := by
  rw [List.range_succ, List.map_append]
  exact List.dropLast_concat
theorem rng_up {f g : Nat → V} {n : Nat} (h : ∀ k, k < n → f k = g k) : (List.range n).map f = (List.range n).map g := List.map_congr_left fun k hk => h k (List.mem_range.mp hk)
def upA (f : Nat → Addr) (k : Nat) (y : Addr) : Nat → Addr := fun j => if j = k then y else f j
theorem upA_same {f : Nat → Addr} {k : Nat} {y : Addr} : upA f k y k = y := if_pos rfl
theorem upA_ne {f : Nat → Addr} {k j : Nat} {y : Addr} (h : j ≠ k) : upA f k y j = f j := if_neg h
theorem rng_app {f : Nat → Addr} {n : Nat} {p : Addr} : ((List.range n).map fun k => V.ref (f k)) ++ [V.ref p] = (List.range (n + 1)).map fun k => V.ref (upA f n p k) := by
  rw [List.range_succ, List.map_append]
  congr 1
  · exact rng_up fun k hk => by rw [upA_ne (by omega)]
  · show _ = [V.ref (upA f n p n)]
    rw [upA_same]
theorem sz {n : Nat} (h : n ≤ 900) : n < sizeLine := small1000 (by omega)
theorem mem1 {i : Nat} {x : Nat × Nat × Nat} {τ : Tg} {p : Addr} (h : τ p = x) (e : x.1 = i) : (τ p).1 ∈ [i] := by rw [h, e]; exact List.mem_singleton.mpr rfl

/-! ### the draws under tags -/
structure StT (τ : Tg) (H : Hp) (st g : Addr) : Prop where
  p : StAt H st g
  ts : τ st = (4, 0, 0)
  tg : τ g = (4, 1, 0)
/-- writes at the state alone; tuples stay -/
structure GS (K : PySem.W.Frag) (τ τ' : Tg) (H H' : Hp) : Prop where
  s : Stp τ τ' [4] H H'
  k : KT K H H'
namespace GS
variable {K : PySem.W.Frag} {τ τ' τ2 : Tg} {H H' H2 : Hp}
theorem refl : GS K τ τ H H := ⟨Stp.refl, fun _ _ h => h⟩
theorem tr (x : GS K τ τ' H H') (y : GS K τ' τ2 H' H2) : GS K τ τ2 H H2 := ⟨x.s.tr y.s, x.k.tr y.k⟩
theorem new {p : Addr} {o : HO} {x : Nat × Nat × Nat} (h : GS K τ τ' H H') (n : H' p = none) : GS K τ (tgN τ' p x) H (upd H' p o) := ⟨h.s.new n, h.k.tr (KT.new n)⟩
theorem same (s : Same H H') : GS K τ τ H H' := ⟨Stp.same s, KT.same s⟩
end GS
theorem StT.step {τ τ' : Tg} {Z : List Nat} {H H' : Hp} {st g : Addr} (h : StT τ H st g) (s : Stp τ τ' Z H H') (n : 4 ∉ Z) : StT τ' H' st g := by
  obtain ⟨gs, d, s2, s3, s4, s5, s6, h1, h2⟩ := h.p
  obtain ⟨a1, b1⟩ := s.at_ h1 h.ts n
  obtain ⟨a2, b2⟩ := s.at_ h2 h.tg n
  exact ⟨⟨gs, d, s2, s3, s4, s5, s6, a1, a2⟩, b1, b2⟩
theorem StT.new {τ : Tg} {H : Hp} {st g p : Addr} {o : HO} {x : Nat × Nat × Nat} (h : StT τ H st g) (n : H p = none) : StT (tgN τ p x) (upd H p o) st g := h.step ((Stp.refl (S := [])).new n) (by simp)
theorem StT.fr {K : PySem.W.Frag} {τ : Tg} {H H' : Hp} {st g : Addr} (h : StT τ H st g) (S' : StAt H' st g) (f : Fr2 st g H H') : StT τ H' st g ∧ GS K τ τ H H' := by
  obtain ⟨gs, d, s2, s3, s4, s5, s6, h1, h2⟩ := h.p
  refine ⟨⟨S', h.ts, h.tg⟩, ⟨fun b o e n => f b o e (fun z => n (by rw [z, h.ts]; simp)) (fun z => n (by rw [z, h.tg]; simp)), fun _ _ => rfl, fun b e => ?_⟩, fun a xs q => ?_⟩
  · obtain ⟨_, _, _, _, _, _, _, k1, k2⟩ := S'
    by_cases c1 : b = st
    · rw [c1]; exact some_ne k1
    by_cases c2 : b = g
    · rw [c2]; exact some_ne k2
    cases q : H b with
    | none => exact absurd q e
    | some o => exact some_ne (f b o q c1 c2)
  · rcases q with (q | ⟨u, q⟩) | q
    · exact .inl (.inl (f _ _ q (ne_of q h1 fun z => nomatch z) (ne_of q h2 fun z => nomatch z)))
    · exact .inl (.inr ⟨u, f _ _ q (ne_of q h1 fun z => nomatch z) (ne_of q h2 fun z => nomatch z)⟩)
    · exact .inr q
def spTakeT (K : PySem.W.Frag) : Sp := fun vs H Q _ => ∃ (τ : Tg) (st g : Addr) (m : Int), vs = [.ref st, .int m] ∧ StT τ H st g ∧ 0 < m ∧ m < 2 ^ 62 ∧ ∀ (v : Int) (H' : Hp), 0 ≤ v → v < m → StT τ H' st g → GS K τ τ H H' → Q (.int v) H'
def spPlaceT (K : PySem.W.Frag) : Sp := fun vs H Q _ => ∃ (τ : Tg) (st g : Addr), vs = [.ref st] ∧ StT τ H st g ∧ ∀ (u : V) (x y : Int) (τ' : Tg) (H' : Hp), DT K H' u (.tuple [.int x, .int y]) → StT τ' H' st g → GS K τ τ' H H' → Q u H'
def spOperT (K : PySem.W.Frag) : Sp := fun vs H Q _ => ∃ (τ : Tg) (st g p : Addr) (r : List Int) (x : Nat × Nat × Nat), vs = [.ref st, .ref p] ∧ StT τ H st g ∧ At τ H p (.lst (r.map V.int)) x ∧ x.1 ≠ 4 ∧ 3 < r.length ∧ 0 < r.getD 3 0 ∧ r.getD 3 0 < 1000 ∧
  ∀ (u : V) (o : Op) (τ' : Tg) (H' : Hp), DT K H' u (opD o) → In.OpOk (r.getD 3 0) o → StT τ' H' st g → GS K τ τ' H H' → Q u H'
def spTargT (K : PySem.W.Frag) : Sp := fun vs H Q _ => ∃ (τ : Tg) (st g p : Addr) (bs : List Bool) (i : Nat) (x : Nat × Nat × Nat), vs = [.ref st, .int i, .ref p] ∧ StT τ H st g ∧ At τ H p (.lst (bs.map V.bl)) x ∧ x.1 ≠ 4 ∧ i + 1 < bs.length ∧ bs.length < 1000 ∧
  ∀ (t : Int) (H' : Hp), 0 ≤ t → t < bs.length → StT τ H' st g → GS K τ τ H H' → Q (.int t) H'
section
variable {P : Program} {w : World} {K : PySem.W.Frag} {mg : Str → Option Value} {base : Heap} {a : Ad}
theorem ok_takeT (T : Txt K mg a) : FnOk P w K mg base CX0 1 a.f_law_take a.d_law_take ["state", "many"] (spTakeT K) :=
  FnOk.imp (ok_law_take T) fun vs H Q E ⟨τ, st, g, m, e, S, h1, h2, q⟩ => ⟨st, g, m, e, S.p, h1, h2, fun v H' v0 v1 S' f => q v H' v0 v1 (S.fr (K := K) S' f).1 (S.fr S' f).2⟩
theorem ok_law_place (T : Txt K mg a) : FnOk P w K mg base CX0 1 a.f_law_place a.d_law_place ["state"] (spPlaceT K) := by
  refine T.F__law_place.ok sc_law_place (fun vs H Q E h => ?_) (fun cdv A outer s H vs Q E hr h => ?_)
  · obtain ⟨_, _, _, rfl, _⟩ := h; rfl
  · obtain ⟨τ, st, g, rfl, S, q⟩ := h
    refine ⟨_, (pss_cons (ps_asg (pe_op op_add (pe_ix ix_list (pv 0) pe_int (fun _ _ => rfl)) pe_int) (pg_sub (pv 0) pe_int set_list))
      (pss_one (ps_ret (pe_tup (pa_cons (pe_op op_add (pe_ix ix_list (pv 0) pe_int (fun _ _ => rfl)) (pe_op op_fdivW (pe_ix ix_list (pv 0) pe_int (fun _ _ => rfl)) pe_int)) (pa_cons (pe_op op_add pe_int (pe_op op_mod (pe_callTy call_int1 (by rfl) T.b_int (by decide +kernel) (pa_cons (pe_op op_add (pe_ix ix_list (pv 0) pe_int (fun _ _ => rfl)) (pe_op op_mul (pe_ix ix_list (pv 0) pe_int (fun _ _ => rfl)) pe_int)) pa_nil)) pe_int)) pa_nil)))))), ?_⟩
    obtain ⟨gs, d, s2, s3, s4, s5, s6, h1, h2⟩ := id S.p
    refine ⟨_, rfl, _, _, _, _, rfl, rfl, SqL.of h1, atI_nat (j := 4) rfl, _, _, rfl, rfl, _, rfl, _, _, _, 4, rfl, rfl, h1, rfl, ?_⟩
    have hst : upd H st (.lst ((sL g d s2 s3 s4 s5 s6).set 4 (V.int (s4 + 1)))) st = some (.lst (sL g d s2 s3 (s4 + 1) s5 s6)) := upd_same
    have F : Fr2 st g H (upd H st (.lst ((sL g d s2 s3 s4 s5 s6).set 4 (V.int (s4 + 1))))) := fr2_st fr2_refl
    obtain ⟨S1, G1⟩ := S.fr (K := K) (H' := upd H st (.lst ((sL g d s2 s3 s4 s5 s6).set 4 (V.int (s4 + 1))))) ⟨gs, d, s2, s3, s4 + 1, s5, s6, hst, by rw [upd_ne S.p.ne.symm]; exact h2⟩ F
    generalize upd H st (.lst ((sL g d s2 s3 s4 s5 s6).set 4 (V.int (s4 + 1)))) = H1 at hst S1 G1 ⊢
    refine ⟨_, rfl, _, _, _, _, rfl, rfl, SqL.of hst, atI_nat (j := 5) rfl, _, rfl, _, _, _, _, rfl, rfl, SqL.of hst, atI_nat (j := 4) rfl, _, _, rfl, rfl, ⟨by decide, by decide +kernel⟩, _, _, rfl, rfl, ?_⟩
    refine ⟨_, rfl, _, _, _, _, rfl, rfl, SqL.of hst, atI_nat (j := 6) rfl, _, rfl, _, _, _, _, rfl, rfl, SqL.of hst, atI_nat (j := 4) rfl, _, _, rfl, rfl, .inr ⟨by decide, by decide⟩, _, _, rfl, rfl, .inl ⟨_, rfl, _, _, rfl, rfl, (by show (0 : Int) < 80; decide), _, _, rfl, rfl, (by show 2 ≤ sizeLine; decide), fun t nt => ?_⟩⟩
    exact q _ _ _ _ _ (.tup (SqT.of upd_same) (.cons (.int _) (.cons (.int _) .nil))) (S1.new nt (x := (7, 0, 0))) (G1.new nt)
end

/-! ### shapes -/
structure ShOk (hs : List (List Int)) (k : Nat) (r : List Int) : Prop where
  l : r.length = 6
  a : 0 ≤ r.getD 1 0 ∧ r.getD 1 0 ≤ 6 ∧ r.getD 1 0 ≤ r.getD 3 0
  s : 0 ≤ r.getD 2 0 ∧ r.getD 2 0 ≤ 10
  g : 3 ≤ r.getD 3 0 ∧ r.getD 3 0 ≤ 30
  c : 0 ≤ r.getD 4 0 ∧ r.getD 4 0 ≤ 4
  v : 0 ≤ r.getD 5 0
  p : r.getD 5 0 = 0 ∨ ∃ j : Nat, r.getD 0 0 = (j : Int) ∧ j < k ∧ (hs.getD j []).getD 5 0 + 1 = r.getD 5 0
def ShsOk (hs : List (List Int)) : Prop := hs.length ≤ 4 ∧ ∀ k r, hs[k]? = some r → ShOk hs k r ∧ r.getD 5 0 ≤ k
structure ShT (τ : Tg) (H : Hp) (sl : Addr) (ps : Nat → Addr) (hs : List (List Int)) : Prop where
  l : At τ H sl (.lst ((List.range hs.length).map fun k => V.ref (ps k))) (3, 0, 0)
  r : ∀ k r, hs[k]? = some r → At τ H (ps k) (.lst (r.map V.int)) (3, 1, k)
theorem ShT.step {τ τ' : Tg} {Z : List Nat} {H H' : Hp} {sl : Addr} {ps : Nat → Addr} {hs : List (List Int)} (h : ShT τ H sl ps hs) (s : Stp τ τ' Z H H') (n : 3 ∉ Z) : ShT τ' H' sl ps hs := ⟨h.l.st s n, fun k r e => (h.r k r e).st s n⟩
theorem getD_of {α : Type} {xs : List α} {k : Nat} {y d : α} (h : xs[k]? = some y) : xs.getD k d = y := by rw [List.getD_eq_getElem?_getD, h]; rfl
/-- where hops lead -/
theorem hops_ok {hs : List (List Int)} (ok : ShsOk hs) : ∀ (i n : Nat) (r : List Int), hs[n]? = some r → (i : Int) + 1 ≤ r.getD 5 0 → ∃ j : Nat, r.getD 0 0 = (j : Int) ∧ ∃ r', hs[j]? = some r' ∧ r'.getD 5 0 + 1 = r.getD 5 0 := fun i n r e h => by
  obtain ⟨o, _⟩ := ok.2 n r e
  rcases o.p with z | ⟨j, h1, h2, h3⟩
  · omega
  · have hn := (List.getElem?_eq_some_iff.mp e).1
    obtain ⟨r', e'⟩ : ∃ r', hs[j]? = some r' := ⟨_, List.getElem?_eq_getElem (by omega)⟩
    refine ⟨j, h1, r', e', ?_⟩
    rw [← h3, getD_of e']
def spAroundT : Sp := fun vs H Q _ => ∃ (τ : Tg) (sl : Addr) (ps : Nat → Addr) (hs : List (List Int)) (n : Nat) (r : List Int) (h : Nat), vs = [.ref sl, .int n, .int h] ∧ ShT τ H sl ps hs ∧ ShsOk hs ∧ hs[n]? = some r ∧ (h : Int) ≤ r.getD 5 0 ∧ ∀ (m : Nat) (r' : List Int), hs[m]? = some r' → Q (.int m) H
theorem w8 (j : Nat) (h : j < 8) : ∃ x, [V.int 0, V.int 1, V.int 2, V.int (-1), V.int 3, V.int 5, V.int 2147483647, V.int (-2147483648)][j]? = some (V.int x) := by
  match j, h with
  | 0, _ => exact ⟨_, rfl⟩
  | 1, _ => exact ⟨_, rfl⟩
  | 2, _ => exact ⟨_, rfl⟩
  | 3, _ => exact ⟨_, rfl⟩
  | 4, _ => exact ⟨_, rfl⟩
  | 5, _ => exact ⟨_, rfl⟩
  | 6, _ => exact ⟨_, rfl⟩
  | 7, _ => exact ⟨_, rfl⟩
theorem bl_at {bs : List Bool} {j : Nat} (h : j < bs.length) : (bs.map V.bl)[j]? = some (V.bl (bs.getD j false)) := by
  rw [List.getElem?_map, List.getD_eq_getElem?_getD, List.getElem?_eq_getElem h] <;> rfl
section
variable {P : Program} {w : World} {K : PySem.W.Frag} {mg : Str → Option Value} {base : Heap} {a : Ad}
theorem ok_law_operand (T : Txt K mg a) : FnOk P w K mg base CX0 2 a.f_law_operand a.d_law_operand ["state", "shape"] (spOperT K) := by
  have G_law_take : FnOk P w K mg base CX0 1 _ _ _ _ := ok_takeT T
  refine T.F__law_operand.ok sc_law_operand (fun vs H Q E h => ?_) (fun cdv A outer s H vs Q E hr h => ?_)
  · obtain ⟨_, _, _, _, _, _, rfl, _⟩ := h; rfl
  · obtain ⟨τ, st, g, p, r, x, rfl, S, hp, hx, hl, r0, r1, q⟩ := h
    refine ⟨_, (pss_cons (ps_if (pt_cmpR op_eq (pe_call G_law_take (hr.mono (by decide)) rfl T.g__law_take T.k__law_take T.bd__law_take .nil pass0 (pa_cons (pv 0) (pa_cons pe_int pa_nil))) pe_int (nomark _)) (pss_one (ps_ret (pe_tup (pa_cons pe_str (pa_cons (pe_ix ix_list (pe_lst (pa_cons pe_int (pa_cons pe_int (pa_cons pe_int (pa_cons (pe_un un_neg pe_int) (pa_cons pe_int (pa_cons pe_int (pa_cons pe_int (pa_cons (pe_un un_neg pe_int) pa_nil))))))))) (pe_call G_law_take (hr.mono (by decide)) rfl T.g__law_take T.k__law_take T.bd__law_take .nil pass0 (pa_cons (pv 0) (pa_cons pe_int pa_nil))) (fun _ _ => rfl)) pa_nil))))) pss_nil)
      (pss_one (ps_ret (pe_tup (pa_cons pe_str (pa_cons (pe_call G_law_take (hr.mono (by decide)) rfl T.g__law_take T.k__law_take T.bd__law_take .nil pass0 (pa_cons (pv 0) (pa_cons (pe_ix ix_list (pv 1) pe_int (fun _ _ => rfl)) pa_nil))) pa_nil)))))), ?_⟩
    have n4 : x.1 ∉ [4] := by simpa using hx
    refine ⟨_, rfl, τ, st, g, 4, rfl, S, by decide, by decide, fun c H1 c0 c1 S1 F1 => ⟨rfl, _, rfl, ite3 (fun e => ?_) (fun e => ?_)⟩⟩
    · refine ⟨_, rfl, _, rfl, (by show 8 ≤ sizeLine; decide), fun l nl => ⟨_, rfl, tgN τ l (7, 0, 0), st, g, 8, rfl, S1.new nl, by decide, by decide, fun v H2 v0 v1 S2 F2 => ?_⟩⟩
      have hl := F2.s.fr l _ upd_same (by rw [tg_same]; simp)
      obtain ⟨j, rfl⟩ : ∃ j : Nat, v = (j : Int) := ⟨v.toNat, by omega⟩
      obtain ⟨y, hy⟩ := w8 j (by omega)
      refine ⟨_, _, _, _, rfl, rfl, SqL.of hl, atI_nat hy, (by show 2 ≤ sizeLine; decide), fun t nt => ?_⟩
      exact q _ ("int", y) _ _ (.tup (SqT.of upd_same) (.cons (.str _) (.cons (.int _) .nil))) (.inl rfl) (S2.new nt (x := (7, 0, 0))) (((F1.new nl).tr F2).new nt)
    · have hp1 := hp.st F1.s n4
      refine ⟨_, rfl, _, rfl, _, _, _, _, rfl, rfl, SqL.of hp1.1, atI_nat (at_map hl), τ, st, g, _, rfl, S1, r0, Int.lt_trans r1 (by decide), fun v H2 v0 v1 S2 F2 => ⟨(by show 2 ≤ sizeLine; decide), fun t nt => ?_⟩⟩
      exact q _ ("reg", v) _ _ (.tup (SqT.of upd_same) (.cons (.str _) (.cons (.int _) .nil))) (.inr ⟨rfl, v0, v1⟩) (S2.new nt (x := (7, 0, 0))) ((F1.tr F2).new nt)
theorem ok_law_target (T : Txt K mg a) : FnOk P w K mg base CX0 2 a.f_law_target a.d_law_target ["state", "index", "ticks"] (spTargT K) := by
  have G_law_take : FnOk P w K mg base CX0 1 _ _ _ _ := ok_takeT T
  refine T.F__law_target.ok sc_law_target (fun vs H Q E h => ?_) (fun cdv A outer s H vs Q E hr h => ?_)
  · obtain ⟨_, _, _, _, _, _, _, rfl, _⟩ := h; rfl
  · obtain ⟨τ, st, g, p, bs, i, x, rfl, S, hp, hx, hi, hl, q⟩ := h
    refine ⟨_, (pss_cons (ps_set (i := 3) sc_law_target.nd rfl (Or.inl rfl) (pe_call G_law_take (hr.mono (by decide)) rfl T.g__law_take T.k__law_take T.bd__law_take .nil pass0 (pa_cons (pv 0) (pa_cons (pe_callB call_len_seq (by rfl) T.b_len (by decide +kernel) (pa_cons (pv 2) pa_nil)) pa_nil))))
      (pss_cons (ps_if (PW.pt (pw_and (pt_cmpR op_le (pv 3) (pv 1) (nomark _)) (pw_and1 (pt_not (pt_val (pe_ix ix_list (pv 2) (pv 3) (fun _ _ => rfl))))))) (pss_one (ps_ret (pe_op op_add (pv 1) pe_int))) pss_nil)
      (pss_one (ps_ret (pv 3))))), ?_⟩
    have n4 : x.1 ∉ [4] := by simpa using hx
    refine ⟨_, rfl, _, rfl, _, _, rfl, .inl (SqL.of hp.1), τ, st, g, _, rfl, S, by rw [List.length_map]; omega, by rw [List.length_map]; omega, fun v H1 v0 v1 S1 F1 => ?_⟩
    rw [List.length_map] at v1
    have hp1 := hp.st F1.s n4
    obtain ⟨j, rfl⟩ : ∃ j : Nat, v = (j : Int) := ⟨v.toNat, by omega⟩
    refine ⟨_, rfl, _, rfl, _, _, rfl, rfl, _, rfl, ite3 (fun e => ?_) (fun e => ?_)⟩
    · refine ⟨_, rfl, _, rfl, _, _, _, _, rfl, rfl, SqL.of hp1.1, atI_nat (bl_at (by omega)), _, rfl, ite3 (fun e2 => ?_) (fun e2 => ?_)⟩
      · exact ⟨_, rfl, _, _, rfl, rfl, q _ _ (by omega) (by omega) S1 F1⟩
      · exact ⟨_, rfl, q _ _ (by omega) (by omega) S1 F1⟩
    · exact ⟨_, rfl, q _ _ (by omega) (by omega) S1 F1⟩
theorem ok_law_around (T : Txt K mg a) : FnOk P w K mg base CX0 1 a.f_law_around a.d_law_around ["shapes", "number", "hops"] spAroundT := by
  refine T.F__law_around.ok sc_law_around (fun vs H Q E h => ?_) (fun cdv A outer s H vs Q E hr h => ?_)
  · obtain ⟨_, _, _, _, _, _, _, rfl, _⟩ := h; rfl
  · obtain ⟨τ, sl, ps, hs, n, r, h, rfl, S, ok, e, hh, q⟩ := h
    refine ⟨_, (pss_cons (ps_for PassesOwn.never rfl (pi_range1 rfl T.b_range (pa_cons (pv 2) pa_nil)) (pg_name (i := 3) sc_law_around.nd rfl (Or.inl rfl)) (pss_one (ps_set (i := 1) sc_law_around.nd rfl (Or.inl rfl) (pe_ix ix_list (pe_ix ix_list (pv 0) (pv 1) (fun _ _ => rfl)) pe_int (fun _ _ => rfl)))))
      (pss_one (ps_ret (pv 1)))), ?_⟩
    have b5 := (ok.2 n r e).2
    have hn := (List.getElem?_eq_some_iff.mp e).1
    have hl := ok.1
    refine ⟨_, rfl, _, rfl, by omega, by omega, ?_⟩
    refine for_range (lo := 0) (n := (h : Int).toNat) (fun i σ H' => H = H' ∧ ∃ (m : Nat) (r' : List Int) (x : Option V), hs[m]? = some r' ∧ (h : Int) ≤ r'.getD 5 0 + i ∧ σ = [some (.ref sl), some (.int m), some (.int h), x]) ⟨rfl, n, r, none, e, by omega, rfl⟩ ?_ ?_
    · rintro i σ H1 hi ⟨rfl, m, r', x, e', hm, rfl⟩
      have hi : i < h := by omega
      obtain ⟨j, j1, r2, j2, j3⟩ := hops_ok ok 0 m r' e' (by omega)
      have hm2 := (List.getElem?_eq_some_iff.mp e').1
      have h0 := atI_nat (at_map (ys := r') (j := 0) (by rw [(ok.2 m r' e').1.l]; decide))
      rw [j1] at h0
      exact ⟨_, rfl, _, rfl, _, _, _, _, rfl, rfl, SqL.of S.l.1, atI_nat (rng_at (f := fun k => V.ref (ps k)) hm2), _, _, _, _, rfl, rfl, SqL.of (S.r m r' e').1, h0, rfl, j, r2, _, j2, by omega, rfl⟩
    · rintro σ H1 ⟨rfl, m, r', x, e', hm, rfl⟩
      exact ⟨_, rfl, q m r' e'⟩
end

/-- an instruction that goes on to the next one -/
def nx (r : Int) (x : In) : Prop := ∀ n i, In.rg n (i + 1) → x.ok r n i
theorem nx_mk {r : Int} {x : In} (h1 : ∀ i, x.fol i = [i + 1]) (o : ∀ g ∈ x.ops, In.OpOk r g) (w : ∀ d ∈ x.wrt, In.rg r d) (l : x.ops.length ≤ 10) (m : x.wrt.length ≤ 10) : nx r x := fun n i h =>
  ⟨o, w, fun t ht => by rw [h1] at ht; rw [List.mem_singleton.mp ht]; exact h, l, m⟩
def spMemT (K : PySem.W.Frag) : Sp := fun vs H Q _ => ∃ (τ : Tg) (st g sl : Addr) (ps : Nat → Addr) (hs : List (List Int)) (n : Nat) (r : List Int), vs = [.ref st, .ref sl, .int n] ∧ StT τ H st g ∧ ShT τ H sl ps hs ∧ ShsOk hs ∧ hs[n]? = some r ∧
  ∀ (u : V) (x : In) (τ' : Tg) (H' : Hp), DT K H' u x.D → nx (r.getD 3 0) x → StT τ' H' st g → GS K τ τ' H H' → Q u H'
theorem ShOk.big {hs : List (List Int)} {k : Nat} {r : List Int} (h : ShOk hs k r) : 3 < r.length ∧ 0 < r.getD 3 0 ∧ r.getD 3 0 < 1000 := by
  have h1 := h.g
  have h2 := h.l
  exact ⟨by omega, by omega, by omega⟩
section
variable {P : Program} {w : World} {K : PySem.W.Frag} {mg : Str → Option Value} {base : Heap} {a : Ad}
theorem ok_law_memory (T : Txt K mg a) : FnOk P w K mg base CX0 3 a.f_law_memory a.d_law_memory ["state", "shapes", "number"] (spMemT K) := by
  have G_law_take : FnOk P w K mg base CX0 1 _ _ _ _ := ok_takeT T
  have G_law_operand : FnOk P w K mg base CX0 2 _ _ _ _ := ok_law_operand T
  have G_law_around : FnOk P w K mg base CX0 1 _ _ _ _ := ok_law_around T
  refine T.F__law_memory.ok sc_law_memory (fun vs H Q E h => ?_) (fun cdv A outer s H vs Q E hr h => ?_)
  · obtain ⟨_, _, _, _, _, _, _, _, rfl, _⟩ := h; rfl
  · obtain ⟨τ, st, g, sl, ps, hs, n, r, rfl, S, sh, ok, e, q⟩ := h
    refine ⟨_, (C8.pss_cut (ps_set (i := 3) sc_law_memory.nd rfl (Or.inl rfl) (pe_ix ix_list (pv 1) (pv 2) (fun _ _ => rfl)))
      (C8.pss_cut (ps_set (i := 4) sc_law_memory.nd rfl (Or.inl rfl) (pe_call G_law_take (hr.mono (by decide)) rfl T.g__law_take T.k__law_take T.bd__law_take .nil pass0 (pa_cons (pv 0) (pa_cons (pe_op op_add (pe_ix ix_list (pv 3) pe_int (fun _ _ => rfl)) pe_int) pa_nil))))
      (C8.pss_cut (ps_set (i := 5) sc_law_memory.nd rfl (Or.inl rfl) (pe_ix ix_list (pe_ix ix_list (pv 1) (pe_call G_law_around (hr.mono (by decide)) rfl T.g__law_around T.k__law_around T.bd__law_around .nil pass0 (pa_cons (pv 1) (pa_cons (pv 2) (pa_cons (pv 4) pa_nil)))) (fun _ _ => rfl)) pe_int (fun _ _ => rfl)))
      (C8.pss_cut (ps_if (pt_cmpR op_eq (pv 5) pe_int (nomark _)) (pss_one (ps_ret (pe_tup (pa_cons pe_str (pa_cons (pe_call G_law_operand (hr.mono (by decide)) rfl T.g__law_operand T.k__law_operand T.bd__law_operand .nil pass0 (pa_cons (pv 0) (pa_cons (pv 3) pa_nil))) pa_nil))))) pss_nil)
      (C8.pss_cut (ps_set (i := 6) sc_law_memory.nd rfl (Or.inl rfl) (pe_call G_law_take (hr.mono (by decide)) rfl T.g__law_take T.k__law_take T.bd__law_take .nil pass0 (pa_cons (pv 0) (pa_cons (pv 5) pa_nil))))
      (C8.pss_cut (ps_set (i := 7) sc_law_memory.nd rfl (Or.inl rfl) (pe_op op_add pe_int (pe_call G_law_take (hr.mono (by decide)) rfl T.g__law_take T.k__law_take T.bd__law_take .nil pass0 (pa_cons (pv 0) (pa_cons (pe_op op_sub (pv 5) (pv 6)) pa_nil)))))
      (C8.pss_cut (ps_set (i := 8) sc_law_memory.nd rfl (Or.inl rfl) (pe_tup (pa_cons pe_str (pa_cons (pe_call G_law_take (hr.mono (by decide)) rfl T.g__law_take T.k__law_take T.bd__law_take .nil pass0 (pa_cons (pv 0) (pa_cons (pv 7) pa_nil))) pa_nil))))
      (C8.pss_cut (ps_if (pt_cmpR op_eq (pe_call G_law_take (hr.mono (by decide)) rfl T.g__law_take T.k__law_take T.bd__law_take .nil pass0 (pa_cons (pv 0) (pa_cons pe_int pa_nil))) pe_int (nomark _)) (pss_one (ps_set (i := 8) sc_law_memory.nd rfl (Or.inl rfl) (pe_call G_law_operand (hr.mono (by decide)) rfl T.g__law_operand T.k__law_operand T.bd__law_operand .nil pass0 (pa_cons (pv 0) (pa_cons (pv 3) pa_nil))))) pss_nil)
      (C8.pss_cut (ps_if (pt_cmpR op_eq (pe_call G_law_take (hr.mono (by decide)) rfl T.g__law_take T.k__law_take T.bd__law_take .nil pass0 (pa_cons (pv 0) (pa_cons pe_int pa_nil))) pe_int (nomark _)) (pss_one (ps_ret (pe_tup (pa_cons pe_str (pa_cons (pe_call G_law_take (hr.mono (by decide)) rfl T.g__law_take T.k__law_take T.bd__law_take .nil pass0 (pa_cons (pv 0) (pa_cons (pe_ix ix_list (pv 3) pe_int (fun _ _ => rfl)) pa_nil))) (pa_cons (pv 4) (pa_cons (pv 6) (pa_cons (pv 7) (pa_cons (pv 8) pa_nil))))))))) pss_nil)
      (pss_one (ps_ret (pe_tup (pa_cons pe_str (pa_cons (pv 4) (pa_cons (pv 6) (pa_cons (pv 7) (pa_cons (pv 8) (pa_cons (pe_call G_law_operand (hr.mono (by decide)) rfl T.g__law_operand T.k__law_operand T.bd__law_operand .nil pass0 (pa_cons (pv 0) (pa_cons (pv 3) pa_nil))) pa_nil)))))))))))))))))), ?_⟩
    obtain ⟨o, ob⟩ := ok.2 n r e
    have hn := (List.getElem?_eq_some_iff.mp e).1
    obtain ⟨g1, g2, g3⟩ := o.big
    have hl := ok.1
    refine ⟨fun σ H' => H = H' ∧ σ = [some (.ref st), some (.ref sl), some (.int n), some (.ref (ps n)), none, none, none, none, none], ⟨_, rfl, _, rfl, _, _, _, _, rfl, rfl, SqL.of sh.l.1, atI_nat (rng_at (f := fun k => V.ref (ps k)) hn), rfl, rfl⟩, ?_⟩
    rintro σ H0 ⟨rfl, rfl⟩
    have hv := o.v
    refine ⟨fun σ H' => StT τ H' st g ∧ GS K τ τ H H' ∧ ∃ k : Nat, (k : Int) ≤ r.getD 5 0 ∧ σ = [some (.ref st), some (.ref sl), some (.int n), some (.ref (ps n)), some (.int k), none, none, none, none], ?_, ?_⟩
    · refine ⟨_, rfl, _, rfl, _, _, _, _, rfl, rfl, SqL.of (sh.r n r e).1, atI_nat (at_map (j := 5) (by rw [o.l]; decide)), _, _, rfl, rfl, τ, st, g, _, rfl, S, by omega, by omega, fun v H1 v0 v1 S1 F1 => ⟨S1, F1, v.toNat, by omega, ?_⟩⟩
      rw [show ((v.toNat : Nat) : Int) = v by omega]; rfl
    clear S
    rintro σ H1 ⟨S, F, k, hk, rfl⟩
    have sh1 := sh.step F.s (by simp)
    refine ⟨fun σ H' => H1 = H' ∧ ∃ c : Int, 0 ≤ c ∧ c ≤ 4 ∧ σ = [some (.ref st), some (.ref sl), some (.int n), some (.ref (ps n)), some (.int k), some (.int c), none, none, none], ?_, ?_⟩
    · refine ⟨_, rfl, _, rfl, _, rfl, _, rfl, τ, sl, ps, hs, n, r, k, rfl, sh1, ok, e, hk, fun m r' e' => ?_⟩
      have hm := (List.getElem?_eq_some_iff.mp e').1
      have o' := (ok.2 m r' e').1
      exact ⟨_, _, _, _, rfl, rfl, SqL.of sh1.l.1, atI_nat (rng_at (f := fun k => V.ref (ps k)) hm), _, _, _, _, rfl, rfl, SqL.of (sh1.r m r' e').1, atI_nat (at_map (j := 4) (by rw [o'.l]; decide)), rfl, _, o'.c.1, o'.c.2, rfl⟩
    rintro σ H2 ⟨rfl, c, c0, c4, rfl⟩
    refine ⟨fun σ H' => H1 = H' ∧ 0 < c ∧ σ = [some (.ref st), some (.ref sl), some (.int n), some (.ref (ps n)), some (.int k), some (.int c), none, none, none], ?_, ?_⟩
    · refine ⟨_, rfl, rfl, _, rfl, ite3 (fun e2 => ?_) (fun e2 => ?_)⟩
      · refine ⟨_, rfl, _, rfl, τ, st, g, ps n, r, _, rfl, S, sh1.r n r e, by simp, g1, g2, g3, fun u x τ2 H2 hu hx S2 F2 => ⟨(by show 2 ≤ sizeLine; decide), fun t nt => ?_⟩⟩
        refine q _ (.pu x) _ _ (.tup (SqT.of upd_same) (.cons (.str _) (.cons (hu.keep (KT.new nt)) .nil))) (nx_mk (fun _ => rfl) (fun y hy => by rw [List.mem_singleton.mp hy]; exact hx) (fun _ z => nomatch z) (Nat.le_of_ble_eq_true rfl) (Nat.le_of_ble_eq_true rfl)) (S2.new nt (x := (7, 0, 0))) ((F.tr F2).new nt)
      · refine ⟨rfl, ?_, rfl⟩
        have : c ≠ 0 := fun z => by subst z; simp at e2
        omega
    rintro σ H2 ⟨rfl, c1, rfl⟩
    refine ⟨fun σ H' => StT τ H' st g ∧ GS K τ τ H H' ∧ ∃ l : Int, 0 ≤ l ∧ l < c ∧ σ = [some (.ref st), some (.ref sl), some (.int n), some (.ref (ps n)), some (.int k), some (.int c), some (.int l), none, none], ?_, ?_⟩
    · exact ⟨_, rfl, _, rfl, τ, st, g, _, rfl, S, c1, by omega, fun v H1 v0 v1 S1 F1 => ⟨S1, F.tr F1, v, v0, v1, rfl⟩⟩
    clear S F sh1
    rintro σ H2 ⟨S, F, l, l0, l1, rfl⟩
    refine ⟨fun σ H' => StT τ H' st g ∧ GS K τ τ H H' ∧ ∃ m : Int, 0 < m ∧ m ≤ c ∧ σ = [some (.ref st), some (.ref sl), some (.int n), some (.ref (ps n)), some (.int k), some (.int c), some (.int l), some (.int m), none], ?_, ?_⟩
    · exact ⟨_, rfl, _, rfl, _, rfl, _, _, rfl, rfl, τ, st, g, _, rfl, S, by omega, by omega, fun v H1 v0 v1 S1 F1 => ⟨_, _, rfl, rfl, S1, F.tr F1, 1 + v, by omega, by omega, rfl⟩⟩
    clear S F
    rintro σ H2 ⟨S, F, m, m0, m1, rfl⟩
    refine ⟨fun σ H' => ∃ τ' u y, StT τ' H' st g ∧ GS K τ τ' H H' ∧ DT K H' u (opD y) ∧ In.OpOk (r.getD 3 0) y ∧ σ = [some (.ref st), some (.ref sl), some (.int n), some (.ref (ps n)), some (.int k), some (.int c), some (.int l), some (.int m), some u], ?_, ?_⟩
    · refine ⟨_, rfl, _, rfl, τ, st, g, _, rfl, S, m0, by omega, fun v H1 v0 v1 S1 F1 => ⟨(by show 2 ≤ sizeLine; decide), fun t nt => ?_⟩⟩
      exact ⟨_, _, ("int", v), S1.new nt (x := (7, 0, 0)), (F.tr F1).new nt, .tup (SqT.of upd_same) (.cons (.str _) (.cons (.int _) .nil)), .inl rfl, rfl⟩
    clear S F
    rintro σ H2 ⟨τ2, u, y, S, F, hu, hy, rfl⟩
    refine ⟨fun σ H' => ∃ τ' u y, StT τ' H' st g ∧ GS K τ τ' H H' ∧ DT K H' u (opD y) ∧ In.OpOk (r.getD 3 0) y ∧ σ = [some (.ref st), some (.ref sl), some (.int n), some (.ref (ps n)), some (.int k), some (.int c), some (.int l), some (.int m), some u], ?_, ?_⟩
    · refine ⟨_, rfl, τ2, st, g, 3, rfl, S, by decide, by decide, fun v H3 v0 v1 S3 F3 => ⟨rfl, _, rfl, ite3 (fun e2 => ?_) (fun e2 => ?_)⟩⟩
      · have sh3 := (sh.step F.s (by simp)).step F3.s (by simp)
        refine ⟨_, rfl, _, rfl, τ2, st, g, ps n, r, _, rfl, S3, sh3.r n r e, by simp, g1, g2, g3, fun u x τ4 H4 hu hx S4 F4 => ⟨_, _, x, S4, (F.tr F3).tr F4, hu, hx, rfl⟩⟩
      · exact ⟨_, _, y, S3, F.tr F3, hu.keep F3.k, hy, rfl⟩
    clear S F hu hy u y
    rintro σ H3 ⟨τ3, u, y, S, F, hu, hy, rfl⟩
    have sh3 := sh.step F.s (by simp)
    refine ⟨fun σ H' => StT τ3 H' st g ∧ GS K τ τ3 H H' ∧ DT K H' u (opD y) ∧ σ = [some (.ref st), some (.ref sl), some (.int n), some (.ref (ps n)), some (.int k), some (.int c), some (.int l), some (.int m), some u], ?_, ?_⟩
    · refine ⟨_, rfl, τ3, st, g, 2, rfl, S, by decide, by decide, fun v H4 v0 v1 S4 F4 => ⟨rfl, _, rfl, ite3 (fun e2 => ?_) (fun e2 => ?_)⟩⟩
      · have sh4 := sh3.step F4.s (by simp)
        refine ⟨_, rfl, _, rfl, _, _, _, _, rfl, rfl, SqL.of (sh4.r n r e).1, atI_nat (at_map g1), τ3, st, g, _, rfl, S4, g2, Int.lt_trans g3 (by decide), fun d H5 d0 d1 S5 F5 => ?_⟩
        have hu5 := (hu.keep F4.k).keep F5.k
        refine ⟨_, rfl, _, rfl, _, rfl, _, rfl, (by show 6 ≤ sizeLine; decide), fun t nt => ?_⟩
        refine q _ (.ld d k l m y) _ _ (.tup (SqT.of upd_same) (.cons (.str _) (.cons (.int _) (.cons (.int _) (.cons (.int _) (.cons (.int _) (.cons (hu5.keep (KT.new nt)) .nil))))))) (nx_mk (fun _ => rfl) (fun y' hy' => by rw [List.mem_singleton.mp hy']; exact hy) (fun d' hd' => by rw [List.mem_singleton.mp hd']; exact ⟨d0, d1⟩) (Nat.le_of_ble_eq_true rfl) (Nat.le_of_ble_eq_true rfl)) (S5.new nt (x := (7, 0, 0))) (((F.tr F4).tr F5).new nt)
      · exact ⟨S4, F.tr F4, hu.keep F4.k, rfl⟩
    clear S F hu
    rintro σ H4 ⟨S, F, hu, rfl⟩
    have sh4 := sh.step F.s (by simp)
    refine ⟨_, rfl, _, rfl, _, rfl, _, rfl, _, rfl, _, rfl, τ3, st, g, ps n, r, _, rfl, S, sh4.r n r e, by simp, g1, g2, g3, fun v x τ5 H5 hv hx S5 F5 => ⟨(by show 6 ≤ sizeLine; decide), fun t nt => ?_⟩⟩
    have hu5 := hu.keep F5.k
    refine q _ (.st k l m y x) _ _ (.tup (SqT.of upd_same) (.cons (.str _) (.cons (.int _) (.cons (.int _) (.cons (.int _) (.cons (hu5.keep (KT.new nt)) (.cons (hv.keep (KT.new nt)) .nil))))))) (nx_mk (fun _ => rfl) (fun y' hy' => ?_) (fun _ z => nomatch z) (Nat.le_of_ble_eq_true rfl) (Nat.le_of_ble_eq_true rfl)) (S5.new nt (x := (7, 0, 0))) ((F.tr F5).new nt)
    rcases List.mem_cons.mp hy' with z | z
    · rw [z]; exact hy
    · rw [List.mem_singleton.mp z]; exact hx
end

theorem GS.put {K : PySem.W.Frag} {τ τ' : Tg} {H H' : Hp} {D : Addr} {ys : List V} {o : HO} (h : GS K τ τ' H H') (n : H D = none) (e : H' D = some (.lst ys)) : GS K τ τ' H (upd H' D o) :=
  ⟨⟨fun b u q m => by rw [upd_ne (ne_of_none q n)]; exact h.s.fr b u q m, h.s.ag, fun b q => by
    by_cases c : b = D
    · rw [c] at q; exact absurd n q
    · rw [upd_ne c]; exact h.s.al b q⟩, h.k.tr (KT.put e)⟩
theorem GS.free {K : PySem.W.Frag} {τ τ' : Tg} {H H' : Hp} {D : Addr} (h : GS K τ τ' H H') (n : H' D = none) : H D = none := by
  cases c : H D with
  | none => rfl
  | some o => exact absurd n (h.s.al D (some_ne c))
theorem eqv_nil {ns : List Int} : PyData.eqv (.list (ns.map PyData.int)) (.list []) = ns.isEmpty := by
  cases ns <;> rfl
theorem dp_ints {K : PySem.W.Frag} {H : Hp} : ∀ rs : List Int, DpAll K H (rs.map V.int) (rs.map PyData.int)
  | [] => .nil
  | x :: rs => .cons (.int x) (dp_ints rs)
theorem lay_ints : ∀ rs : List Int, PyData.canLayAll0 (rs.map PyData.int) = true
  | [] => rfl
  | x :: rs => by
    show (PyData.canLay0 (.int x) && PyData.canLayAll0 (rs.map PyData.int)) = true
    rw [lay_ints rs] <;> rfl
theorem depth_ints : ∀ rs : List Int, PyData.depthAll (rs.map PyData.int) ≤ 1
  | [] => by simp [PyData.depthAll]
  | x :: rs => by
    have := depth_ints rs
    simp only [List.map_cons, PyData.depthAll, PyData.depth]
    omega
theorem shaped_ints (rs : List Int) : SeqAt.shaped (.list (rs.map PyData.int)) = true := by
  have := depth_ints rs
  unfold SeqAt.shaped
  rw [show PyData.canLay0 (.list (rs.map PyData.int)) = true from lay_ints rs, Bool.true_and]
  refine decide_eq_true ?_
  simp only [PyData.depth]
  omega
section
variable {P : Program} {w : World} {K : PySem.W.Frag} {mg : Str → Option Value} {base : Heap} {a : Ad}
theorem ok_law_call (T : Txt K mg a) : FnOk P w K mg base CX0 3 a.f_law_call a.d_law_call ["state", "shapes", "number"] (spMemT K) := by
  have G_law_take : FnOk P w K mg base CX0 1 _ _ _ _ := ok_takeT T
  have G_law_operand : FnOk P w K mg base CX0 2 _ _ _ _ := ok_law_operand T
  have G_law_around : FnOk P w K mg base CX0 1 _ _ _ _ := ok_law_around T
  refine T.F__law_call.ok sc_law_call (fun vs H Q E h => ?_) (fun cdv A outer s H vs Q E hr h => ?_)
  · obtain ⟨_, _, _, _, _, _, _, _, rfl, _⟩ := h; rfl
  · obtain ⟨τ, st, g, sl, ps, hs, n, r, rfl, S, sh, ok, e, q⟩ := h
    refine ⟨_, (C8.pss_cut (ps_set (i := 3) sc_law_call.nd rfl (Or.inr rfl) (pe_ix ix_list (pv 1) (pv 2) (fun _ _ => rfl)))
      (C8.pss_cut (ps_set (i := 4) sc_law_call.nd rfl (Or.inl rfl) (pe_call G_law_take (hr.mono (by decide)) rfl T.g__law_take T.k__law_take T.bd__law_take .nil pass0 (pa_cons (pv 0) (pa_cons (pe_op op_add (pe_ix ix_list (pv 3) pe_int (fun _ _ => rfl)) pe_int) pa_nil))))
      (C8.pss_cut (ps_set (i := 5) sc_law_call.nd rfl (Or.inr rfl) (pe_call G_law_around (hr.mono (by decide)) rfl T.g__law_around T.k__law_around T.bd__law_around .nil pass0 (pa_cons (pv 1) (pa_cons (pv 2) (pa_cons (pv 4) pa_nil)))))
      (C8.pss_cut (ps_setLc (i := 6) (own := [("k", 7)]) (g := gName 7) rfl sc_law_call.nd rfl rfl (sw_true rfl rfl rfl (by decide +kernel)) (pi_range1 rfl T.b_range (pa_cons (pe_callB call_len_seq (by rfl) T.b_len (by decide +kernel) (pa_cons (pv 1) pa_nil)) pa_nil)) (blkOk_by (own := [("k", 7)]) (N := ["state", "shapes", "number", "shape", "hops", "parent", "called", "k", "other", "given", "first", "results"]) (sc := defScope s_law_call) (by decide +kernel)) (fun _ _ _ _ _ => pg_name (i := 7) sc_law_call.nd rfl (Or.inl rfl)) (fun _ _ _ _ _ => (pts_one (pt_cmpR op_eq (pe_ix (ix_listK (K := K) rfl) (pe_ix (ix_listK (K := K) rfl) (pv 1) (pv 7) (fun _ _ => rfl)) pe_int (fun _ _ => rfl)) (pv 5) (nomark _)))) (fun _ _ _ _ _ => (pv 7)))
      (C8.pss_cut (ps_if (pt_cmpR (op_eqD hr.units) (pv 6) (pe_lst pa_nil) (nomark _)) (pss_one (ps_ret (pe_tup (pa_cons pe_str (pa_cons (pe_call G_law_operand (hr.mono (by decide)) rfl T.g__law_operand T.k__law_operand T.bd__law_operand .nil pass0 (pa_cons (pv 0) (pa_cons (pv 3) pa_nil))) pa_nil))))) pss_nil)
      (C8.pss_cut (ps_set (i := 8) sc_law_call.nd rfl (Or.inl rfl) (pe_ix ix_list (pv 6) (pe_call G_law_take (hr.mono (by decide)) rfl T.g__law_take T.k__law_take T.bd__law_take .nil pass0 (pa_cons (pv 0) (pa_cons (pe_callB call_len_seq (by rfl) T.b_len (by decide +kernel) (pa_cons (pv 6) pa_nil)) pa_nil))) (fun _ _ => rfl)))
      (C8.pss_cut (ps_set (i := 9) sc_law_call.nd rfl (Or.inl rfl) (pe_callTy call_tuple_of (by rfl) T.b_tuple (by decide +kernel) (pa_cons (pe_lc (own := [("k", 7)]) (g := gName 7) rfl sc_law_call.nd (pi_range1 rfl T.b_range (pa_cons (pe_ix ix_list (pe_ix ix_list (pv 1) (pv 8) (fun _ _ => rfl)) pe_int (fun _ _ => rfl)) pa_nil)) (blkOk_by (own := [("k", 7)]) (N := ["state", "shapes", "number", "shape", "hops", "parent", "called", "k", "other", "given", "first", "results"]) (sc := defScope s_law_call) (by decide +kernel)) (fun _ _ _ _ _ => pg_name (i := 7) sc_law_call.nd rfl (Or.inl rfl)) (fun _ _ _ _ _ => pts_nil) (fun _ _ _ _ _ => (pe_call G_law_operand (hr.mono (by decide)) rfl T.g__law_operand T.k__law_operand T.bd__law_operand .nil pass0 (pa_cons (pv 0) (pa_cons (pv 3) pa_nil))))) pa_nil)))
      (C8.pss_cut (ps_set (i := 10) sc_law_call.nd rfl (Or.inr rfl) (pe_call G_law_take (hr.mono (by decide)) rfl T.g__law_take T.k__law_take T.bd__law_take .nil pass0 (pa_cons (pv 0) (pa_cons (pe_ix ix_list (pv 3) pe_int (fun _ _ => rfl)) pa_nil))))
      (C8.pss_cut (ps_set (i := 11) sc_law_call.nd rfl (Or.inl rfl) (pe_callTy call_tuple_of (by rfl) T.b_tuple (by decide +kernel) (pa_cons (pe_lc (own := [("k", 7)]) (g := gName 7) rfl sc_law_call.nd (pi_range1 rfl T.b_range (pa_cons (pe_ix ix_list (pe_ix ix_list (pv 1) (pv 8) (fun _ _ => rfl)) pe_int (fun _ _ => rfl)) pa_nil)) (blkOk_by (own := [("k", 7)]) (N := ["state", "shapes", "number", "shape", "hops", "parent", "called", "k", "other", "given", "first", "results"]) (sc := defScope s_law_call) (by decide +kernel)) (fun _ _ _ _ _ => pg_name (i := 7) sc_law_call.nd rfl (Or.inl rfl)) (fun _ _ _ _ _ => pts_nil) (fun _ _ _ _ _ => (pe_op op_mod (pe_callTy call_int1 (by rfl) T.b_int (by decide +kernel) (pa_cons (pe_op op_add (pv 10) (pv 7)) pa_nil)) (pe_ix (ix_listK (K := K) rfl) (pv 3) pe_int (fun _ _ => rfl))))) pa_nil)))
      (pss_one (ps_ret (pe_tup (pa_cons pe_str (pa_cons (pv 8) (pa_cons (pv 4) (pa_cons (pv 9) (pa_cons (pv 11) (pa_cons (pe_call G_law_take (hr.mono (by decide)) rfl T.g__law_take T.k__law_take T.bd__law_take .nil pass0 (pa_cons (pv 0) (pa_cons pe_int pa_nil))) pa_nil)))))))))))))))))), ?_⟩
    obtain ⟨o, ob⟩ := ok.2 n r e
    have hn := (List.getElem?_eq_some_iff.mp e).1
    obtain ⟨g1, g2, g3⟩ := o.big
    have hl := ok.1
    refine ⟨fun σ H' => H = H' ∧ σ = [some (.ref st), some (.ref sl), some (.int n), some (.ref (ps n)), none, none, none, none, none, none, none, none], ⟨_, rfl, _, rfl, _, _, _, _, rfl, rfl, SqL.of sh.l.1, atI_nat (rng_at (f := fun k => V.ref (ps k)) hn), rfl, rfl⟩, ?_⟩
    rintro σ H0 ⟨rfl, rfl⟩
    have hv := o.v
    refine ⟨fun σ H' => StT τ H' st g ∧ GS K τ τ H H' ∧ ∃ k : Nat, (k : Int) ≤ r.getD 5 0 ∧ σ = [some (.ref st), some (.ref sl), some (.int n), some (.ref (ps n)), some (.int k), none, none, none, none, none, none, none], ?_, ?_⟩
    · refine ⟨_, rfl, _, rfl, _, _, _, _, rfl, rfl, SqL.of (sh.r n r e).1, atI_nat (at_map (j := 5) (by rw [o.l]; decide)), _, _, rfl, rfl, τ, st, g, _, rfl, S, by omega, by omega, fun v H1 v0 v1 S1 F1 => ⟨S1, F1, v.toNat, by omega, ?_⟩⟩
      rw [show ((v.toNat : Nat) : Int) = v by omega]; rfl
    clear S
    rintro σ H1 ⟨S, F, k, hk, rfl⟩
    have sh1 := sh.step F.s (by simp)
    refine ⟨fun σ H' => H1 = H' ∧ ∃ m : Nat, σ = [some (.ref st), some (.ref sl), some (.int n), some (.ref (ps n)), some (.int k), some (.int m), none, none, none, none, none, none], ⟨_, rfl, _, rfl, _, rfl, τ, sl, ps, hs, n, r, k, rfl, sh1, ok, e, hk, fun m r' e' => ⟨rfl, m, rfl⟩⟩, ?_⟩
    rintro σ H2 ⟨rfl, m, rfl⟩
    refine ⟨fun σ H' => ∃ (D : Addr) (js : List Int), StT (tgN τ D (8, 0, 0)) H' st g ∧ GS K τ (tgN τ D (8, 0, 0)) H H' ∧ At (tgN τ D (8, 0, 0)) H' D (.lst (List.map V.int js)) (8, 0, 0) ∧ js.length ≤ 4 ∧ (∀ j ∈ js, 0 ≤ j ∧ j < (hs.length : Int)) ∧ σ = [some (.ref st), some (.ref sl), some (.int n), some (.ref (ps n)), some (.int k), some (.int m), some (.ref D), none, none, none, none, none], ?_, ?_⟩
    · refine ⟨_, rfl, _, _, rfl, .inl (SqL.of sh1.l.1), _, rfl, by rw [rng_len]; omega, by rw [rng_len]; omega, fun D nD => ?_⟩
      refine lc_range (lo := 0) (n := (((List.range hs.length).map fun k => V.ref (ps k)).length : Int).toNat) (fun i H' => ∃ js : List Int, StT (tgN τ D (8, 0, 0)) H' st g ∧ GS K τ (tgN τ D (8, 0, 0)) H H' ∧ At (tgN τ D (8, 0, 0)) H' D (.lst (List.map V.int js)) (8, 0, 0) ∧ js.length ≤ i ∧ ∀ j ∈ js, 0 ≤ j ∧ j < (hs.length : Int)) ⟨[], S.new nD, F.new nD, At.mk, Nat.le_refl _, fun _ z => nomatch z⟩ ?_ ?_
      · rintro i H3 hi ⟨js, S3, F3, D3, l3, b3⟩
        have hi : i < hs.length := by rw [rng_len] at hi; omega
        obtain ⟨r', e'⟩ : ∃ r', hs[i]? = some r' := ⟨_, List.getElem?_eq_getElem hi⟩
        have sh3 := sh.step F3.s (by simp)
        rw [show (0 : Int) + (i : Int) = (i : Int) from Int.zero_add _]
        refine ⟨rfl, _, rfl, _, rfl, _, _, _, _, rfl, rfl, SqL.of sh3.l.1, atI_nat (rng_at (f := fun k => V.ref (ps k)) hi), _, _, _, _, rfl, rfl, SqL.of (sh3.r i r' e').1, atI_nat (at_map (j := 0) (by rw [(ok.2 i r' e').1.l]; decide)), _, rfl, rfl, _, rfl, ?_⟩
        refine ite3 (fun e2 => ?_) (fun e2 => ⟨js, S3, F3, D3, by omega, b3⟩)
        refine ⟨_, rfl, _, D3.1, sz (by rw [List.length_map]; omega), js ++ [(i : Int)], ?_, F3.put (F.free nD) D3.1, ?_, by simp; omega, fun j hj => ?_⟩
        · exact S3.step ((Stp.refl (S := [8])).put (mem1 D3.2 rfl)) (by simp)
        · rw [List.map_append]; exact .set D3.2
        · rcases List.mem_append.mp hj with z | z
          · exact b3 j z
          · rw [List.mem_singleton.mp z]; omega
      · rintro H3 ⟨js, S3, F3, D3, l3, b3⟩
        rw [rng_len] at l3
        exact ⟨D, js, S3, F3, D3, by omega, b3, rfl⟩
    clear S F sh1
    rintro σ H2 ⟨D, js, S, F, hD, l4, bj, rfl⟩
    generalize tgN τ D (8, 0, 0) = τ2 at S F hD
    have sh2 := sh.step F.s (by simp)
    refine ⟨fun σ H' => ∃ τ', StT τ' H' st g ∧ GS K τ τ' H H' ∧ At τ' H' D (.lst (List.map V.int js)) (8, 0, 0) ∧ 0 < js.length ∧ σ = [some (.ref st), some (.ref sl), some (.int n), some (.ref (ps n)), some (.int k), some (.int m), some (.ref D), none, none, none, none, none], ?_, ?_⟩
    · refine ⟨_, rfl, (by show 0 ≤ sizeLine; decide), fun p np => ?_⟩
      have hD2 := hD.new np (u := .lst []) (y := (7, 0, 0))
      refine ⟨_, _, .lst (SqL.of hD2.1) (dp_ints _), .lst (SqL.of upd_same) .nil, shaped_ints _, rfl, _, rfl, ?_⟩
      rw [eqv_nil]
      have S3 := S.new np (o := .lst []) (x := (7, 0, 0))
      have F3 := F.new np (o := .lst []) (x := (7, 0, 0))
      have sh3 := sh.step F3.s (by simp)
      cases js with
      | nil =>
        refine iteT ?_
        refine ⟨_, rfl, _, rfl, _, st, g, ps n, r, _, rfl, S3, sh3.r n r e, by simp, g1, g2, g3, fun u x τ4 H4 hu hx S4 F4 => ⟨(by show 2 ≤ sizeLine; decide), fun t nt => ?_⟩⟩
        refine q _ (.pu x) _ _ (.tup (SqT.of upd_same) (.cons (.str _) (.cons (hu.keep (KT.new nt)) .nil))) (nx_mk (fun _ => rfl) (fun y hy => by rw [List.mem_singleton.mp hy]; exact hx) (fun _ z => nomatch z) (Nat.le_of_ble_eq_true rfl) (Nat.le_of_ble_eq_true rfl)) (S4.new nt (x := (7, 0, 0))) ((F3.tr F4).new nt)
      | cons j0 js => exact iteF ⟨_, S3, F3, hD2, Nat.succ_pos _, rfl⟩
    clear S F hD sh2
    rintro σ H3 ⟨τ3, S, F, hD, j0, rfl⟩
    refine ⟨fun σ H' => StT τ3 H' st g ∧ GS K τ τ3 H H' ∧ ∃ (z : Nat) (r' : List Int), hs[z]? = some r' ∧ σ = [some (.ref st), some (.ref sl), some (.int n), some (.ref (ps n)), some (.int k), some (.int m), some (.ref D), none, some (.int z), none, none, none], ?_, ?_⟩
    · refine ⟨_, rfl, _, rfl, _, rfl, _, _, rfl, .inl (SqL.of hD.1), τ3, st, g, _, rfl, S, by rw [List.length_map]; omega, by rw [List.length_map]; omega, fun v H4 v0 v1 S4 F4 => ?_⟩
      rw [List.length_map] at v1
      have hD4 := hD.st F4.s (by simp)
      obtain ⟨i, rfl⟩ : ∃ i : Nat, v = (i : Int) := ⟨v.toNat, by omega⟩
      obtain ⟨z, hz⟩ : ∃ z, js[i]? = some z := ⟨_, List.getElem?_eq_getElem (by omega)⟩
      have bz := bj z (List.mem_of_getElem? hz)
      obtain ⟨z, rfl⟩ : ∃ i : Nat, z = (i : Int) := ⟨z.toNat, by omega⟩
      obtain ⟨r', e'⟩ : ∃ r', hs[z]? = some r' := ⟨_, List.getElem?_eq_getElem (by omega)⟩
      exact ⟨_, _, _, _, rfl, rfl, SqL.of hD4.1, atI_nat (by rw [List.getElem?_map, hz]; rfl), S4, F.tr F4, z, r', e', rfl⟩
    clear S F hD
    rintro σ H4 ⟨S, F, z, r', e', rfl⟩
    have o' := (ok.2 z r' e').1
    have hz := (List.getElem?_eq_some_iff.mp e').1
    refine ⟨fun σ H' => ∃ (τ' : Tg) (u : V) (xs : List Op), StT τ' H' st g ∧ GS K τ τ' H H' ∧ DT K H' u (.tuple (xs.map opD)) ∧ xs.length ≤ 10 ∧ (∀ y ∈ xs, In.OpOk (r.getD 3 0) y) ∧ σ = [some (.ref st), some (.ref sl), some (.int n), some (.ref (ps n)), some (.int k), some (.int m), some (.ref D), none, some (.int z), some u, none, none], ?_, ?_⟩
    · have sh4 := sh.step F.s (by simp)
      have b1 := o'.a
      refine ⟨_, rfl, _, rfl, _, _, _, _, rfl, rfl, SqL.of sh4.l.1, atI_nat (rng_at (f := fun k => V.ref (ps k)) hz), _, _, _, _, rfl, rfl, SqL.of (sh4.r z r' e').1, atI_nat (at_map (j := 1) (by rw [o'.l]; decide)), _, rfl, by omega, by omega, fun L nL => ?_⟩
      refine lc_range (lo := 0) (n := (r'.getD 1 0).toNat) (fun i H' => ∃ (τ' : Tg) (us : List V) (xs : List Op), StT τ' H' st g ∧ GS K τ τ' H H' ∧ At τ' H' L (.lst us) (8, 1, 0) ∧ DTs K H' us (xs.map opD) ∧ xs.length = i ∧ ∀ y ∈ xs, In.OpOk (r.getD 3 0) y) ⟨tgN τ3 L (8, 1, 0), [], [], S.new nL, F.new nL, At.mk, .nil, rfl, fun _ z => nomatch z⟩ ?_ ?_
      · rintro i H5 hi ⟨τ5, us, xs, S5, F5, L5, D5, l5, b5⟩
        have sh5 := sh.step F5.s (by simp)
        refine ⟨rfl, _, rfl, _, rfl, τ5, st, g, ps n, r, _, rfl, S5, sh5.r n r e, by simp, g1, g2, g3, fun u x τ6 H6 hu hx S6 F6 => ?_⟩
        have L6 := L5.st F6.s (by simp)
        have D6 := D5.keep F6.k
        have lus : us.length = i := by rw [D5.len, List.length_map, l5]
        refine ⟨us, L6.1, sz (by omega), τ6, us ++ [u], xs ++ [x], S6.step ((Stp.refl (S := [8])).put (mem1 L6.2 rfl)) (by simp), (F5.tr F6).put (F.free nL) L6.1, .set L6.2, ?_, by simp [l5], fun y hy => ?_⟩
        · rw [List.map_append]
          exact (D6.keep (KT.put L6.1)).app (.cons (hu.keep (KT.put L6.1)) .nil)
        · rcases List.mem_append.mp hy with z | z
          · exact b5 y z
          · rw [List.mem_singleton.mp z]; exact hx
      · rintro H5 ⟨τ5, us, xs, S5, F5, L5, D5, l5, b5⟩
        refine ⟨L, _, rfl, .inl ⟨SqL.of L5.1, fun t nt => ?_⟩⟩
        exact ⟨_, _, xs, S5.new nt (x := (7, 0, 0)), F5.new nt, .tup (SqT.of upd_same) (D5.keep (KT.new nt)), by omega, b5, rfl⟩
    clear S F
    rintro σ H5 ⟨τ5, u, xs, S, F, hu, lx, bx, rfl⟩
    have sh5 := sh.step F.s (by simp)
    refine ⟨fun σ H' => StT τ5 H' st g ∧ GS K τ τ5 H H' ∧ DT K H' u (.tuple (xs.map opD)) ∧ ∃ f : Int, σ = [some (.ref st), some (.ref sl), some (.int n), some (.ref (ps n)), some (.int k), some (.int m), some (.ref D), none, some (.int z), some u, some (.int f), none], ?_, ?_⟩
    · exact ⟨_, rfl, _, rfl, _, _, _, _, rfl, rfl, SqL.of (sh5.r n r e).1, atI_nat (at_map g1), τ5, st, g, _, rfl, S, g2, Int.lt_trans g3 (by decide), fun v H6 v0 v1 S6 F6 => ⟨S6, F.tr F6, hu.keep F6.k, v, rfl⟩⟩
    clear S F hu sh5
    rintro σ H6 ⟨S, F, hu, f, rfl⟩
    have sh6 := sh.step F.s (by simp)
    refine ⟨fun σ H' => ∃ (τ' : Tg) (v : V) (js : List Int), StT τ' H' st g ∧ GS K τ τ' H H' ∧ DT K H' u (.tuple (xs.map opD)) ∧ DT K H' v (.tuple (js.map .int)) ∧ js.length ≤ 10 ∧ (∀ y ∈ js, In.rg (r.getD 3 0) y) ∧ σ = [some (.ref st), some (.ref sl), some (.int n), some (.ref (ps n)), some (.int k), some (.int m), some (.ref D), none, some (.int z), some u, some (.int f), some v], ?_, ?_⟩
    · have b1 := o'.s
      refine ⟨_, rfl, _, rfl, _, _, _, _, rfl, rfl, SqL.of sh6.l.1, atI_nat (rng_at (f := fun k => V.ref (ps k)) hz), _, _, _, _, rfl, rfl, SqL.of (sh6.r z r' e').1, atI_nat (at_map (j := 2) (by rw [o'.l]; decide)), _, rfl, by omega, by omega, fun L nL => ?_⟩
      refine lc_range (lo := 0) (n := (r'.getD 2 0).toNat) (fun i H' => ∃ js : List Int, StT (tgN τ5 L (8, 1, 0)) H' st g ∧ GS K τ (tgN τ5 L (8, 1, 0)) H H' ∧ DT K H' u (.tuple (xs.map opD)) ∧ At (tgN τ5 L (8, 1, 0)) H' L (.lst (js.map V.int)) (8, 1, 0) ∧ js.length = i ∧ ∀ y ∈ js, In.rg (r.getD 3 0) y) ⟨[], S.new nL, F.new nL, hu.keep (KT.new nL), At.mk, rfl, fun _ z => nomatch z⟩ ?_ ?_
      · rintro i H7 hi ⟨js, S7, F7, u7, L7, l7, b7⟩
        have sh7 := sh.step F7.s (by simp)
        refine ⟨rfl, _, rfl, _, rfl, _, _, rfl, rfl, .inl ⟨_, rfl, _, rfl, _, _, _, _, rfl, rfl, SqL.of (sh7.r n r e).1, atI_nat (at_map g1), _, _, rfl, rfl, g2, ?_⟩⟩
        refine ⟨_, L7.1, sz (by rw [List.length_map]; omega), js ++ [(f + (0 + (i : Int))) % r.getD 3 0], S7.step ((Stp.refl (S := [8])).put (mem1 L7.2 rfl)) (by simp), F7.put (F.free nL) L7.1, u7.keep (KT.put L7.1), ?_, by simp [l7], fun y hy => ?_⟩
        · rw [List.map_append]; exact .set L7.2
        · rcases List.mem_append.mp hy with z | z
          · exact b7 y z
          · rw [List.mem_singleton.mp z]
            exact ⟨Int.emod_nonneg _ (by omega), Int.emod_lt_of_pos _ g2⟩
      · rintro H7 ⟨js, S7, F7, u7, L7, l7, b7⟩
        refine ⟨L, _, rfl, .inl ⟨SqL.of L7.1, fun t nt => ?_⟩⟩
        exact ⟨_, _, js, S7.new nt (x := (7, 0, 0)), F7.new nt, u7.keep (KT.new nt), .tup (SqT.of upd_same) ((dts_ints js).keep (KT.new nt)), by omega, b7, rfl⟩
    clear S F hu sh6
    rintro σ H7 ⟨τ7, v, js2, S, F, hu, hv2, l2, b2, rfl⟩
    refine ⟨_, rfl, _, rfl, _, rfl, _, rfl, _, rfl, τ7, st, g, 5, rfl, S, by decide, by decide, fun p H8 p0 p1 S8 F8 => ⟨(by show 6 ≤ sizeLine; decide), fun t nt => ?_⟩⟩
    refine q _ (.ca z k xs js2 p) _ _ (.tup (SqT.of upd_same) (.cons (.str _) (.cons (.int _) (.cons (.int _) (.cons ((hu.keep F8.k).keep (KT.new nt)) (.cons ((hv2.keep F8.k).keep (KT.new nt)) (.cons (.int _) .nil))))))) (nx_mk (fun _ => rfl) bx b2 lx l2) (S8.new nt (x := (7, 0, 0))) ((F.tr F8).new nt)
end

structure RgA (n g : Int) (r : List Int) : Prop where
  l : r.length = 5
  a : 0 ≤ r.getD 0 0 ∧ r.getD 0 0 < r.getD 1 0
  b : r.getD 1 0 < n
  e : r.getD 1 0 ≤ r.getD 2 0 ∧ r.getD 2 0 < n
  f : In.rg g (r.getD 3 0)
  s : In.rg g (r.getD 4 0)
def spRegsT (K : PySem.W.Frag) : Sp := fun vs H Q _ => ∃ (τ : Tg) (st g p : Addr) (r : List Int) (x : Nat × Nat × Nat) (n : Int), vs = [.ref st, .ref p, .int n] ∧ StT τ H st g ∧ At τ H p (.lst (r.map V.int)) x ∧ x.1 ≠ 4 ∧ x.1 ≠ 6 ∧ 3 < r.length ∧ 3 ≤ r.getD 3 0 ∧ r.getD 3 0 < 1000 ∧ 4 ≤ n ∧ n < 1000 ∧
  ∀ (L : Addr) (us : List V) (rs : List (List Int)) (τ' : Tg) (H' : Hp), H L = none → At τ' H' L (.lst us) (6, 0, 0) → DTs K H' us (rs.map regD) → (∀ q ∈ rs, RgA n (r.getD 3 0) q) → rs.length ≤ 3 → StT τ' H' st g → GS K τ τ' H H' → Q (.ref L) H'
section
variable {P : Program} {w : World} {K : PySem.W.Frag} {mg : Str → Option Value} {base : Heap} {a : Ad}
theorem ok_law_regions (T : Txt K mg a) : FnOk P w K mg base CX0 2 a.f_law_regions a.d_law_regions ["state", "shape", "size"] (spRegsT K) := by
  have G_law_take : FnOk P w K mg base CX0 1 _ _ _ _ := ok_takeT T
  refine T.F__law_regions.ok sc_law_regions (fun vs H Q E h => ?_) (fun cdv A outer s H vs Q E hr h => ?_)
  · obtain ⟨_, _, _, _, _, _, _, rfl, _⟩ := h; rfl
  · obtain ⟨τ, st, g, p, r, x, n, rfl, S, hp, x4, x6, hl, g1, g2, n4, n9, q⟩ := h
    refine ⟨_, (C8.pss_cut (ps_set (i := 3) sc_law_regions.nd rfl (Or.inl rfl) (pe_lst pa_nil))
      (C8.pss_cut (ps_for PassesOwn.never rfl (pi_range1 rfl T.b_range (pa_cons (pe_call G_law_take (hr.mono (by decide)) rfl T.g__law_take T.k__law_take T.bd__law_take .nil pass0 (pa_cons (pv 0) (pa_cons pe_int pa_nil))) pa_nil)) (pg_name (i := 4) sc_law_regions.nd rfl (Or.inl rfl)) (C8.pss_cut (ps_set (i := 5) sc_law_regions.nd rfl (Or.inl rfl) (pe_call G_law_take (hr.mono (by decide)) rfl T.g__law_take T.k__law_take T.bd__law_take .nil pass0 (pa_cons (pv 0) (pa_cons (pe_op op_sub (pv 2) pe_int) pa_nil))))
      (C8.pss_cut (ps_set (i := 6) sc_law_regions.nd rfl (Or.inl rfl) (pe_op op_add (pe_op op_add (pv 5) pe_int) (pe_call G_law_take (hr.mono (by decide)) rfl T.g__law_take T.k__law_take T.bd__law_take .nil pass0 (pa_cons (pv 0) (pa_cons (pe_op op_sub (pe_op op_sub (pv 2) pe_int) (pv 5)) pa_nil)))))
      (C8.pss_cut (ps_set (i := 7) sc_law_regions.nd rfl (Or.inl rfl) (pe_op op_add (pv 6) (pe_call G_law_take (hr.mono (by decide)) rfl T.g__law_take T.k__law_take T.bd__law_take .nil pass0 (pa_cons (pv 0) (pa_cons (pe_op op_sub (pv 2) (pv 6)) pa_nil)))))
      (C8.pss_cut (ps_set (i := 8) sc_law_regions.nd rfl (Or.inl rfl) (pe_call G_law_take (hr.mono (by decide)) rfl T.g__law_take T.k__law_take T.bd__law_take .nil pass0 (pa_cons (pv 0) (pa_cons (pe_ix ix_list (pv 1) pe_int (fun _ _ => rfl)) pa_nil))))
      (C8.pss_cut (ps_set (i := 9) sc_law_regions.nd rfl (Or.inl rfl) (pe_op op_mod (pe_callTy call_int1 (by rfl) T.b_int (by decide +kernel) (pa_cons (pe_op op_add (pe_op op_add (pv 8) pe_int) (pe_call G_law_take (hr.mono (by decide)) rfl T.g__law_take T.k__law_take T.bd__law_take .nil pass0 (pa_cons (pv 0) (pa_cons (pe_op op_sub (pe_ix ix_list (pv 1) pe_int (fun _ _ => rfl)) pe_int) pa_nil)))) pa_nil)) (pe_ix ix_list (pv 1) pe_int (fun _ _ => rfl))))
      (pss_one (ps_expr (pe_bm PySem.F.plainAttrs_list PySem.F.slot_list_append PySem.F.type_list_append mt_append (pv 3) (pa_cons (pe_tup (pa_cons (pv 5) (pa_cons (pv 6) (pa_cons (pv 7) (pa_cons (pv 8) (pa_cons (pv 9) pa_nil)))))) pa_nil))))))))))
      (pss_one (ps_ret (pv 3))))), ?_⟩
    refine ⟨fun σ H' => ∃ L, H L = none ∧ StT (tgN τ L (6, 0, 0)) H' st g ∧ GS K τ (tgN τ L (6, 0, 0)) H H' ∧ At (tgN τ L (6, 0, 0)) H' L (.lst []) (6, 0, 0) ∧ σ = [some (.ref st), some (.ref p), some (.int n), some (.ref L), none, none, none, none, none, none], ?_, ?_⟩
    · exact ⟨by decide, fun L nL => ⟨L, nL, S.new nL, GS.refl.new nL, At.mk, rfl⟩⟩
    clear S
    rintro σ H1 ⟨L, nL, S, F, hL, rfl⟩
    refine ⟨fun σ H' => ∃ (τ' : Tg) (us : List V) (rs : List (List Int)), StT τ' H' st g ∧ GS K τ τ' H H' ∧ At τ' H' L (.lst us) (6, 0, 0) ∧ DTs K H' us (rs.map regD) ∧ rs.length ≤ 3 ∧ (∀ q ∈ rs, RgA n (r.getD 3 0) q) ∧ ∃ x4 x5 x6 x7 x8 x9, σ = [some (.ref st), some (.ref p), some (.int n), some (.ref L), x4, x5, x6, x7, x8, x9], ?_, ?_⟩
    · refine ⟨_, rfl, _, st, g, 4, rfl, S, by decide, by decide, fun u H2 u0 u1 S2 F2 => ⟨_, rfl, by omega, by omega, ?_⟩⟩
      refine for_range (lo := 0) (n := u.toNat) (fun i σ H' => ∃ (τ' : Tg) (us : List V) (rs : List (List Int)), StT τ' H' st g ∧ GS K τ τ' H H' ∧ At τ' H' L (.lst us) (6, 0, 0) ∧ DTs K H' us (rs.map regD) ∧ rs.length = i ∧ (∀ q ∈ rs, RgA n (r.getD 3 0) q) ∧ ∃ x4 x5 x6 x7 x8 x9, σ = [some (.ref st), some (.ref p), some (.int n), some (.ref L), x4, x5, x6, x7, x8, x9]) ⟨_, [], [], S2, F.tr F2, hL.st F2.s (by simp), .nil, rfl, (fun _ z => nomatch z), none, none, none, none, none, none, rfl⟩ ?_ ?_
      · clear S F hL S2 F2
        rintro i σ H3 hi ⟨τ3, us, rs, S, F, hL, D, lr, br, y4, y5, y6, y7, y8, y9, rfl⟩
        refine ⟨fun σ H' => StT τ3 H' st g ∧ GS K τ τ3 H H' ∧ At τ3 H' L (.lst us) (6, 0, 0) ∧ DTs K H' us (rs.map regD) ∧ ∃ c : Int, 0 ≤ c ∧ c < n - 1 ∧ σ = [some (.ref st), some (.ref p), some (.int n), some (.ref L), some (.int (0 + (i : Int))), some (.int c), y6, y7, y8, y9], ?_, ?_⟩
        · exact ⟨_, rfl, _, rfl, _, _, rfl, rfl, τ3, st, g, _, rfl, S, by omega, by omega, fun v H4 v0 v1 S4 F4 => ⟨S4, F.tr F4, hL.st F4.s (by simp), D.keep F4.k, v, v0, v1, rfl⟩⟩
        clear S F hL D
        rintro σ H4 ⟨S, F, hL, D, c, c0, c1, rfl⟩
        refine ⟨fun σ H' => StT τ3 H' st g ∧ GS K τ τ3 H H' ∧ At τ3 H' L (.lst us) (6, 0, 0) ∧ DTs K H' us (rs.map regD) ∧ ∃ d : Int, c < d ∧ d < n ∧ σ = [some (.ref st), some (.ref p), some (.int n), some (.ref L), some (.int (0 + (i : Int))), some (.int c), some (.int d), y7, y8, y9], ?_, ?_⟩
        · exact ⟨_, rfl, _, _, rfl, rfl, _, rfl, _, rfl, _, _, rfl, rfl, _, rfl, _, _, rfl, rfl, τ3, st, g, _, rfl, S, by omega, by omega, fun v H5 v0 v1 S5 F5 => ⟨_, _, rfl, rfl, S5, F.tr F5, hL.st F5.s (by simp), D.keep F5.k, c + 1 + v, by omega, by omega, rfl⟩⟩
        clear S F hL D
        rintro σ H5 ⟨S, F, hL, D, d, d0, d1, rfl⟩
        refine ⟨fun σ H' => StT τ3 H' st g ∧ GS K τ τ3 H H' ∧ At τ3 H' L (.lst us) (6, 0, 0) ∧ DTs K H' us (rs.map regD) ∧ ∃ e : Int, d ≤ e ∧ e < n ∧ σ = [some (.ref st), some (.ref p), some (.int n), some (.ref L), some (.int (0 + (i : Int))), some (.int c), some (.int d), some (.int e), y8, y9], ?_, ?_⟩
        · exact ⟨_, rfl, _, rfl, _, rfl, _, rfl, _, _, rfl, rfl, τ3, st, g, _, rfl, S, by omega, by omega, fun v H5 v0 v1 S5 F5 => ⟨_, _, rfl, rfl, S5, F.tr F5, hL.st F5.s (by simp), D.keep F5.k, d + v, by omega, by omega, rfl⟩⟩
        clear S F hL D
        rintro σ H6 ⟨S, F, hL, D, e, e0, e1, rfl⟩
        refine ⟨fun σ H' => StT τ3 H' st g ∧ GS K τ τ3 H H' ∧ At τ3 H' L (.lst us) (6, 0, 0) ∧ DTs K H' us (rs.map regD) ∧ ∃ f : Int, In.rg (r.getD 3 0) f ∧ σ = [some (.ref st), some (.ref p), some (.int n), some (.ref L), some (.int (0 + (i : Int))), some (.int c), some (.int d), some (.int e), some (.int f), y9], ?_, ?_⟩
        · have hp6 := hp.st F.s (by simpa using x4)
          exact ⟨_, rfl, _, rfl, _, _, _, _, rfl, rfl, SqL.of hp6.1, atI_nat (at_map hl), τ3, st, g, _, rfl, S, Int.lt_of_lt_of_le (by decide) g1, Int.lt_trans g2 (by decide), fun v H5 v0 v1 S5 F5 => ⟨S5, F.tr F5, hL.st F5.s (by simp), D.keep F5.k, v, ⟨v0, v1⟩, rfl⟩⟩
        clear S F hL D
        rintro σ H7 ⟨S, F, hL, D, f, fr, rfl⟩
        refine ⟨fun σ H' => StT τ3 H' st g ∧ GS K τ τ3 H H' ∧ At τ3 H' L (.lst us) (6, 0, 0) ∧ DTs K H' us (rs.map regD) ∧ ∃ f2 : Int, In.rg (r.getD 3 0) f2 ∧ σ = [some (.ref st), some (.ref p), some (.int n), some (.ref L), some (.int (0 + (i : Int))), some (.int c), some (.int d), some (.int e), some (.int f), some (.int f2)], ?_, ?_⟩
        · have hp6 := hp.st F.s (by simpa using x4)
          have g0 : 0 < r.getD 3 0 := Int.lt_of_lt_of_le (by decide) g1
          refine ⟨_, rfl, _, _, rfl, rfl, _, rfl, _, rfl, _, _, _, _, rfl, rfl, SqL.of hp6.1, atI_nat (at_map hl), _, _, rfl, rfl, τ3, st, g, _, rfl, S, (by have h : (3 : Int) ≤ r.getD 3 0 := g1; show 0 < r.getD 3 0 - 1; omega), (by have h : r.getD 3 0 < (1000 : Int) := g2; show r.getD 3 0 - 1 < 2 ^ 62; omega), fun v H5 v0 v1 S5 F5 => ⟨_, _, rfl, rfl, .inl ⟨_, rfl, ?_⟩⟩⟩
          have hp7 := hp6.st F5.s (by simpa using x4)
          exact ⟨_, rfl, _, _, _, _, rfl, rfl, SqL.of hp7.1, atI_nat (at_map hl), _, _, rfl, rfl, g0, S5, F.tr F5, hL.st F5.s (by simp), D.keep F5.k, _, ⟨Int.emod_nonneg _ (by omega), Int.emod_lt_of_pos _ g0⟩, rfl⟩
        clear S F hL D
        rintro σ H8 ⟨S, F, hL, D, f2, fr2, rfl⟩
        refine ⟨_, rfl, .inl ⟨rfl, _, SqL.of hL.1⟩, _, rfl, _, rfl, _, rfl, _, rfl, _, rfl, (by show 5 ≤ sizeLine; decide), fun t nt => ?_⟩
        have lus : us.length = rs.length := by rw [D.len, List.length_map]
        have hL2 := hL.new nt (u := .tup [.int c, .int d, .int e, .int f, .int f2]) (y := (7, 0, 0))
        have D2 := D.keep (KT.new nt (o := .tup [.int c, .int d, .int e, .int f, .int f2]))
        refine ⟨L, _, _, rfl, rfl, hL2.1, sz (by omega), tgN τ3 t (7, 0, 0), us ++ [.ref t], rs ++ [[c, d, e, f, f2]], (S.new nt).step ((Stp.refl (S := [6])).put (mem1 hL2.2 rfl)) (by simp), (F.new nt).put nL hL2.1, .set hL2.2, ?_, by simp [lr], fun q hq => ?_, _, _, _, _, _, _, rfl⟩
        · rw [List.map_append]
          exact (D2.keep (KT.put hL2.1)).app (.cons (.tup (K := K) (xs := [.int c, .int d, .int e, .int f, .int f2]) (KT.put hL2.1 _ _ (SqT.of upd_same)) (dts_ints [c, d, e, f, f2])) .nil)
        · rcases List.mem_append.mp hq with z | z
          · exact br q z
          · rw [List.mem_singleton.mp z]
            exact ⟨rfl, ⟨c0, d0⟩, d1, ⟨e0, e1⟩, fr, fr2⟩
      · rintro σ H3 ⟨τ3, us, rs, S, F, hL, D, lr, br, y⟩
        exact ⟨τ3, us, rs, S, F, hL, D, by omega, br, y⟩
    clear S F hL
    rintro σ H2 ⟨τ2, us, rs, S, F, hL, D, lr, br, y4, y5, y6, y7, y8, y9, rfl⟩
    exact ⟨_, rfl, q L us rs τ2 H2 nL hL D br lr S F⟩
end

section
variable {K : PySem.W.Frag} {H : Hp}
mutual
theorem DT.dp : ∀ {v : V} {d : PyData}, DT K H v d → Dp K H v d
  | _, _, .non => .non
  | _, _, .bl b => .bl b
  | _, _, .int b => .int b
  | _, _, .str b => .str b
  | _, _, .tup h r => .tup h r.dps
theorem DTs.dps : ∀ {vs : List V} {ds : List PyData}, DTs K H vs ds → DpAll K H vs ds
  | _, _, .nil => .nil
  | _, _, .cons h r => .cons h.dp r.dps
end
end
theorem lay_regs : ∀ rs : List (List Int), PyData.canLayAll0 (rs.map regD) = true
  | [] => rfl
  | r :: rs => by
    show (PyData.canLay0 (regD r) && PyData.canLayAll0 (rs.map regD)) = true
    rw [lay_regs rs, show PyData.canLay0 (regD r) = PyData.canLayAll0 (r.map PyData.int) from rfl, lay_ints r]
    rfl
theorem depth_regs : ∀ rs : List (List Int), PyData.depthAll (rs.map regD) ≤ 3
  | [] => by simp [PyData.depthAll]
  | r :: rs => by
    have h1 := depth_regs rs
    have h2 := depth_ints r
    simp only [List.map_cons, PyData.depthAll, regD, PyData.depth]
    omega
theorem shaped_regs (rs : List (List Int)) : SeqAt.shaped (.list (rs.map regD)) = true := by
  have := depth_regs rs
  unfold SeqAt.shaped
  rw [show PyData.canLay0 (.list (rs.map regD)) = true from lay_regs rs, Bool.true_and]
  refine decide_eq_true ?_
  simp only [PyData.depth]
  omega
theorem eqv_regs {rs : List (List Int)} : PyData.eqv (.list (rs.map regD)) (.list []) = rs.isEmpty := by
  cases rs <;> rfl
structure InIn (K : PySem.W.Frag) (τ : Tg) (H : Hp) (st g sl : Addr) (ps : Nat → Addr) (hs : List (List Int)) (tk rl : Addr) (bs : List Bool) (us : List V) (rs : List (List Int)) : Prop where
  s : StT τ H st g
  sh : ShT τ H sl ps hs
  tk : At τ H tk (.lst (bs.map V.bl)) (5, 0, 0)
  rl : At τ H rl (.lst us) (6, 0, 0)
  rd : DTs K H us (rs.map regD)
theorem InIn.gs {K : PySem.W.Frag} {τ τ' : Tg} {H H' : Hp} {st g sl : Addr} {ps : Nat → Addr} {hs : List (List Int)} {tk rl : Addr} {bs : List Bool} {us : List V} {rs : List (List Int)} (h : InIn K τ H st g sl ps hs tk rl bs us rs) (S : StT τ' H' st g) (F : GS K τ τ' H H') : InIn K τ' H' st g sl ps hs tk rl bs us rs :=
  ⟨S, h.sh.step F.s (by simp), h.tk.st F.s (by simp), h.rl.st F.s (by simp), h.rd.keep F.k⟩
def spInsT (K : PySem.W.Frag) : Sp := fun vs H Q _ => ∃ (τ : Tg) (st g sl : Addr) (ps : Nat → Addr) (hs : List (List Int)) (tk rl : Addr) (bs : List Bool) (us : List V) (rs : List (List Int)) (n i : Nat) (r : List Int), vs = [.ref st, .ref sl, .int n, .int i, .ref tk, .ref rl] ∧ InIn K τ H st g sl ps hs tk rl bs us rs ∧ ShsOk hs ∧ hs[n]? = some r ∧ rs.length ≤ 3 ∧ (∀ q ∈ rs, RgA bs.length (r.getD 3 0) q) ∧ i + 1 < bs.length ∧ bs.length < 1000 ∧
  ∀ (u : V) (x : In) (τ' : Tg) (H' : Hp), DT K H' u x.D → x.ok (r.getD 3 0) bs.length i → StT τ' H' st g → GS K τ τ' H H' → Q u H'
theorem nmB_at : ∀ k : _root_.Fin 6, [V.str "add", V.str "sub", V.str "mul", V.str "div", V.str "mod", V.str "rem"][k.val]? = some (V.str (nmB k.val)) := by decide +kernel
section
variable {P : Program} {w : World} {K : PySem.W.Frag} {mg : Str → Option Value} {base : Heap} {a : Ad}
theorem ok_law_instruction (T : Txt K mg a) : FnOk P w K mg base CX0 4 a.f_law_instruction a.d_law_instruction ["state", "shapes", "number", "index", "ticks", "regions"] (spInsT K) := by
  have G_law_take : FnOk P w K mg base CX0 1 _ _ _ _ := ok_takeT T
  have G_law_operand : FnOk P w K mg base CX0 2 _ _ _ _ := ok_law_operand T
  have G_law_target : FnOk P w K mg base CX0 2 _ _ _ _ := ok_law_target T
  have G_law_memory : FnOk P w K mg base CX0 3 _ _ _ _ := ok_law_memory T
  have G_law_call : FnOk P w K mg base CX0 3 _ _ _ _ := ok_law_call T
  refine T.F__law_instruction.ok sc_law_instruction (fun vs H Q E h => ?_) (fun cdv A outer s H vs Q E hr h => ?_)
  · obtain ⟨_, _, _, _, _, _, _, _, _, _, _, _, _, _, rfl, _⟩ := h; rfl
  · obtain ⟨τ, st, g, sl, ps, hs, tk, rl, bs, us, rs, n, i, r, rfl, I, ok, e, lr, br, hi, hb, q⟩ := h
    refine ⟨_, (pss_cons (ps_set (i := 6) sc_law_instruction.nd rfl (Or.inr rfl) (pe_ix ix_list (pv 1) (pv 2) (fun _ _ => rfl)))
      (C8.pss_cut (ps_set (i := 7) sc_law_instruction.nd rfl (Or.inl rfl) (pe_call G_law_take (hr.mono (by decide)) rfl T.g__law_take T.k__law_take T.bd__law_take .nil pass0 (pa_cons (pv 0) (pa_cons pe_int pa_nil))))
      (C8.pss_cut (ps_set (i := 8) sc_law_instruction.nd rfl (Or.inl rfl) (pe_call G_law_take (hr.mono (by decide)) rfl T.g__law_take T.k__law_take T.bd__law_take .nil pass0 (pa_cons (pv 0) (pa_cons (pe_ix ix_list (pv 6) pe_int (fun _ _ => rfl)) pa_nil))))
      (C8.pss_cut (ps_set (i := 9) sc_law_instruction.nd rfl (Or.inl rfl) (pe_call G_law_take (hr.mono (by decide)) rfl T.g__law_take T.k__law_take T.bd__law_take .nil pass0 (pa_cons (pv 0) (pa_cons pe_int pa_nil))))
      (C8.pss_cut (ps_set (i := 10) sc_law_instruction.nd rfl (Or.inl rfl) (pe_call G_law_operand (hr.mono (by decide)) rfl T.g__law_operand T.k__law_operand T.bd__law_operand .nil pass0 (pa_cons (pv 0) (pa_cons (pv 6) pa_nil))))
      (pss_cons (ps_if (pt_cmpR op_lt (pv 7) pe_int (nomark _)) (pss_one (ps_ret (pe_tup (pa_cons pe_str (pa_cons (pv 8) (pa_cons (pv 10) pa_nil)))))) pss_nil)
      (pss_cons (ps_if (pt_cmpR op_eq (pv 7) pe_int (nomark _)) (pss_one (ps_ret (pe_tup (pa_cons (pe_ix ix_list (pe_lst (pa_cons pe_str (pa_cons pe_str pa_nil))) (pe_call G_law_take (hr.mono (by decide)) rfl T.g__law_take T.k__law_take T.bd__law_take .nil pass0 (pa_cons (pv 0) (pa_cons pe_int pa_nil))) (fun _ _ => rfl)) (pa_cons (pv 8) (pa_cons (pv 10) (pa_cons (pv 9) pa_nil))))))) pss_nil)
      (pss_cons (ps_if (pt_cmpR op_lt (pv 7) pe_int (nomark _)) (pss_cons (ps_set (i := 11) sc_law_instruction.nd rfl (Or.inl rfl) (pe_ix ix_list (pe_lst (pa_cons pe_str (pa_cons pe_str (pa_cons pe_str (pa_cons pe_str (pa_cons pe_str (pa_cons pe_str pa_nil))))))) (pe_call G_law_take (hr.mono (by decide)) rfl T.g__law_take T.k__law_take T.bd__law_take .nil pass0 (pa_cons (pv 0) (pa_cons pe_int pa_nil))) (fun _ _ => rfl)))
      (pss_one (ps_ret (pe_tup (pa_cons (pv 11) (pa_cons (pv 8) (pa_cons (pv 10) (pa_cons (pe_call G_law_operand (hr.mono (by decide)) rfl T.g__law_operand T.k__law_operand T.bd__law_operand .nil pass0 (pa_cons (pv 0) (pa_cons (pv 6) pa_nil))) (pa_cons (pv 9) pa_nil))))))))) pss_nil)
      (pss_cons (ps_if (pt_cmpR op_lt (pv 7) pe_int (nomark _)) (pss_one (ps_ret (pe_tup (pa_cons (pe_ix ix_list (pe_lst (pa_cons pe_str (pa_cons pe_str pa_nil))) (pe_call G_law_take (hr.mono (by decide)) rfl T.g__law_take T.k__law_take T.bd__law_take .nil pass0 (pa_cons (pv 0) (pa_cons pe_int pa_nil))) (fun _ _ => rfl)) (pa_cons (pv 8) (pa_cons (pv 10) (pa_cons (pe_call G_law_operand (hr.mono (by decide)) rfl T.g__law_operand T.k__law_operand T.bd__law_operand .nil pass0 (pa_cons (pv 0) (pa_cons (pv 6) pa_nil))) pa_nil))))))) pss_nil)
      (pss_cons (ps_if (pt_cmpR op_eq (pv 7) pe_int (nomark _)) (pss_cons (ps_set (i := 12) sc_law_instruction.nd rfl (Or.inl rfl) (pe_op op_sub (pe_call G_law_take (hr.mono (by decide)) rfl T.g__law_take T.k__law_take T.bd__law_take .nil pass0 (pa_cons (pv 0) (pa_cons pe_int pa_nil))) pe_int))
      (pss_one (ps_ret (pe_tup (pa_cons pe_str (pa_cons (pv 10) (pa_cons (pv 12) (pa_cons (pe_op op_add (pv 12) (pe_call G_law_take (hr.mono (by decide)) rfl T.g__law_take T.k__law_take T.bd__law_take .nil pass0 (pa_cons (pv 0) (pa_cons pe_int pa_nil)))) (pa_cons (pv 9) pa_nil))))))))) pss_nil)
      (pss_cons (ps_if (pt_cmpR op_lt (pv 7) pe_int (nomark _)) (pss_one (ps_ret (pe_call G_law_memory (hr.mono (by decide)) rfl T.g__law_memory T.k__law_memory T.bd__law_memory .nil pass0 (pa_cons (pv 0) (pa_cons (pv 1) (pa_cons (pv 2) pa_nil)))))) pss_nil)
      (pss_cons (ps_if (pt_cmpR op_eq (pv 7) pe_int (nomark _)) (pss_one (ps_ret (pe_tup (pa_cons pe_str (pa_cons (pe_call G_law_target (hr.mono (by decide)) rfl T.g__law_target T.k__law_target T.bd__law_target .nil pass0 (pa_cons (pv 0) (pa_cons (pv 3) (pa_cons (pv 4) pa_nil)))) pa_nil))))) pss_nil)
      (pss_cons (ps_if (pt_cmpR op_lt (pv 7) pe_int (nomark _)) (pss_one (ps_ret (pe_tup (pa_cons pe_str (pa_cons (pv 10) (pa_cons (pe_call G_law_target (hr.mono (by decide)) rfl T.g__law_target T.k__law_target T.bd__law_target .nil pass0 (pa_cons (pv 0) (pa_cons (pv 3) (pa_cons (pv 4) pa_nil)))) pa_nil)))))) pss_nil)
      (pss_cons (ps_if (pt_cmpR op_lt (pv 7) pe_int (nomark _)) (pss_one (ps_ret (pe_call G_law_call (hr.mono (by decide)) rfl T.g__law_call T.k__law_call T.bd__law_call .nil pass0 (pa_cons (pv 0) (pa_cons (pv 1) (pa_cons (pv 2) pa_nil)))))) pss_nil)
      (pss_cons (ps_if (pt_cmpR op_eq (pv 7) pe_int (nomark _)) (pss_one (ps_ret (pe_tup (pa_cons pe_str (pa_cons (pe_call G_law_take (hr.mono (by decide)) rfl T.g__law_take T.k__law_take T.bd__law_take .nil pass0 (pa_cons (pv 0) (pa_cons pe_int pa_nil))) (pa_cons (pv 9) pa_nil)))))) pss_nil)
      (C8.pss_cut (ps_if (PW.pt (pw_and (pt_cmpR op_eq (pv 7) pe_int (nomark _)) (pw_and1 (pt_cmpR (op_neD hr.units) (pv 5) (pe_lst pa_nil) (nomark _))))) (pss_cons (ps_set (i := 13) sc_law_instruction.nd rfl (Or.inl rfl) (pe_ix ix_list (pv 5) (pe_call G_law_take (hr.mono (by decide)) rfl T.g__law_take T.k__law_take T.bd__law_take .nil pass0 (pa_cons (pv 0) (pa_cons (pe_callB call_len_seq (by rfl) T.b_len (by decide +kernel) (pa_cons (pv 5) pa_nil)) pa_nil))) (fun _ _ => rfl)))
      (pss_one (ps_ret (pe_tup (pa_cons pe_str (pa_cons (pe_tup (pa_cons pe_str (pa_cons (pe_ix ix_tup (pv 13) pe_int (fun _ _ => rfl)) pa_nil))) (pa_cons (pe_tup (pa_cons pe_str (pa_cons (pe_ix ix_tup (pv 13) pe_int (fun _ _ => rfl)) pa_nil))) pa_nil))))))) pss_nil)
      (pss_cons (ps_if (pt_cmpR op_eq (pv 7) pe_int (nomark _)) (pss_one (ps_ret (pe_tup (pa_cons pe_str (pa_cons (pv 8) (pa_cons (pv 9) pa_nil)))))) pss_nil)
      (pss_cons (ps_if (pt_cmpR op_eq (pv 7) pe_int (nomark _)) (pss_one (ps_ret (pe_tup (pa_cons pe_str (pa_cons (pe_callTy call_tuple_of (by rfl) T.b_tuple (by decide +kernel) (pa_cons (pe_lc (own := [("k", 14)]) (g := gName 14) rfl sc_law_instruction.nd (pi_range1 rfl T.b_range (pa_cons (pe_ix ix_list (pv 6) pe_int (fun _ _ => rfl)) pa_nil)) (blkOk_by (own := [("k", 14)]) (N := ["state", "shapes", "number", "index", "ticks", "regions", "shape", "kind", "d", "p", "x", "op", "low", "region", "k"]) (sc := defScope s_law_instruction) (by decide +kernel)) (fun _ _ _ _ _ => pg_name (i := 14) sc_law_instruction.nd rfl (Or.inl rfl)) (fun _ _ _ _ _ => pts_nil) (fun _ _ _ _ _ => (pe_call G_law_operand (hr.mono (by decide)) rfl T.g__law_operand T.k__law_operand T.bd__law_operand .nil pass0 (pa_cons (pv 0) (pa_cons (pv 6) pa_nil))))) pa_nil)) pa_nil))))) pss_nil)
      (pss_one (ps_ret (pe_tup (pa_cons pe_str (pa_cons (pv 10) pa_nil))))))))))))))))))))))), ?_⟩
    obtain ⟨o, ob⟩ := ok.2 n r e
    have hn := (List.getElem?_eq_some_iff.mp e).1
    obtain ⟨g1, g2, g3⟩ := o.big
    have hl := ok.1
    have g62 : r.getD 3 0 < 2 ^ 62 := Int.lt_trans g3 (by decide)
    have nxt : In.rg bs.length ((i : Int) + 1) := ⟨by omega, by omega⟩
    -- shape
    have hsh0 := atI_nat (rng_at (f := fun k => V.ref (ps k)) hn)
    refine ⟨_, rfl, _, rfl, _, _, _, _, rfl, rfl, SqL.of I.sh.l.1, hsh0, ?_⟩
    refine ⟨fun σ H' => InIn K τ H' st g sl ps hs tk rl bs us rs ∧ GS K τ τ H H' ∧ ∃ c : Int, σ = [some (.ref st), some (.ref sl), some (.int n), some (.int i), some (.ref tk), some (.ref rl), some (.ref (ps n)), some (.int c), none, none, none, none, none, none, none], ?_, ?_⟩
    · exact ⟨_, rfl, τ, st, g, 25, rfl, I.s, by decide, by decide, fun v H1 v0 v1 S1 F1 => ⟨I.gs S1 F1, F1, v, rfl⟩⟩
    clear I
    rintro σ H1 ⟨I, F, c, rfl⟩
    refine ⟨fun σ H' => InIn K τ H' st g sl ps hs tk rl bs us rs ∧ GS K τ τ H H' ∧ ∃ d : Int, In.rg (r.getD 3 0) d ∧ σ = [some (.ref st), some (.ref sl), some (.int n), some (.int i), some (.ref tk), some (.ref rl), some (.ref (ps n)), some (.int c), some (.int d), none, none, none, none, none, none], ?_, ?_⟩
    · exact ⟨_, rfl, _, rfl, _, _, _, _, rfl, rfl, SqL.of (I.sh.r n r e).1, atI_nat (at_map g1), τ, st, g, _, rfl, I.s, g2, g62, fun v H1 v0 v1 S1 F1 => ⟨I.gs S1 F1, F.tr F1, v, ⟨v0, v1⟩, rfl⟩⟩
    clear I F
    rintro σ H2 ⟨I, F, d, hd, rfl⟩
    refine ⟨fun σ H' => InIn K τ H' st g sl ps hs tk rl bs us rs ∧ GS K τ τ H H' ∧ ∃ p : Int, σ = [some (.ref st), some (.ref sl), some (.int n), some (.int i), some (.ref tk), some (.ref rl), some (.ref (ps n)), some (.int c), some (.int d), some (.int p), none, none, none, none, none], ?_, ?_⟩
    · exact ⟨_, rfl, τ, st, g, 5, rfl, I.s, by decide, by decide, fun v H1 v0 v1 S1 F1 => ⟨I.gs S1 F1, F.tr F1, v, rfl⟩⟩
    clear I F
    rintro σ H3 ⟨I, F, p, rfl⟩
    refine ⟨fun σ H' => ∃ (τ' : Tg) (u : V) (x : Op), InIn K τ' H' st g sl ps hs tk rl bs us rs ∧ GS K τ τ' H H' ∧ DT K H' u (opD x) ∧ In.OpOk (r.getD 3 0) x ∧ σ = [some (.ref st), some (.ref sl), some (.int n), some (.int i), some (.ref tk), some (.ref rl), some (.ref (ps n)), some (.int c), some (.int d), some (.int p), some u, none, none, none, none], ?_, ?_⟩
    · exact ⟨_, rfl, _, rfl, τ, st, g, ps n, r, _, rfl, I.s, I.sh.r n r e, by simp, g1, g2, g3, fun u x τ4 H4 hu hx S4 F4 => ⟨τ4, u, x, I.gs S4 F4, F.tr F4, hu, hx, rfl⟩⟩
    clear I F
    rintro σ H4 ⟨τ4, u, x, I, F, hu, hx, rfl⟩
    -- a new tuple is the answer
    have fin : ∀ {y : In} {τ5 : Tg} {H5 : Hp} {vs : List V} {t : Addr}, H5 t = none → StT τ5 H5 st g → GS K τ τ5 H H5 → DTs K H5 vs (.str y.nm :: y.ds) → y.ok (r.getD 3 0) bs.length i → Q (.ref t) (upd H5 t (.tup vs)) := fun nt S5 F5 D5 ho =>
      q _ _ _ _ (.tup (SqT.of upd_same) (D5.keep (KT.new nt))) ho (S5.new nt (x := (7, 0, 0))) (F5.new nt)
    have one : ∀ y ∈ [x], In.OpOk (r.getD 3 0) y := fun y hy => by rw [List.mem_singleton.mp hy]; exact hx
    have onw : ∀ y ∈ [d], In.rg (r.getD 3 0) y := fun y hy => by rw [List.mem_singleton.mp hy]; exact hd
    have two : ∀ {z : Op}, In.OpOk (r.getD 3 0) z → ∀ y ∈ [x, z], In.OpOk (r.getD 3 0) y := fun {z} hz y hy => by
      rcases List.mem_cons.mp hy with w | w
      · rw [w]; exact hx
      · rw [List.mem_singleton.mp w]; exact hz
    refine ⟨_, rfl, _, _, rfl, rfl, _, rfl, ite3 (fun _ => ?_) (fun _ => ?_)⟩
    · exact ⟨_, rfl, _, rfl, (by show 3 ≤ sizeLine; decide), fun t nt => fin (y := .mv d x) nt I.s F (.cons (.str _) (.cons (.int _) (.cons hu .nil))) (nx_mk (r := r.getD 3 0) (x := .mv d x) (fun _ => rfl) one onw (Nat.le_of_ble_eq_true rfl) (Nat.le_of_ble_eq_true rfl) _ _ nxt)⟩
    refine ⟨_, rfl, rfl, _, rfl, ite3 (fun _ => ?_) (fun _ => ?_)⟩
    · refine ⟨(by show 2 ≤ sizeLine; decide), fun l nl => ⟨_, rfl, tgN τ4 l (7, 0, 0), st, g, 2, rfl, I.s.new nl, by decide, by decide, fun v H5 v0 v1 S5 F5 => ?_⟩⟩
      have hl5 := F5.s.fr l _ upd_same (by rw [tg_same]; simp)
      have F6 := (F.new nl (o := .lst [V.str "neg", V.str "abs"])).tr F5
      have hu5 := (hu.keep (KT.new nl (o := .lst [V.str "neg", V.str "abs"]))).keep F5.k
      obtain ⟨k, hk⟩ : ∃ k : Bool, atI [V.str "neg", V.str "abs"] v = some (V.str (nmU k)) := by
        obtain rfl | rfl : v = 0 ∨ v = 1 := by omega
        · exact ⟨false, at0⟩
        · exact ⟨true, atI_nat (j := 1) rfl⟩
      exact ⟨_, _, _, _, rfl, rfl, SqL.of hl5, hk, _, rfl, _, rfl, _, rfl, (by show 4 ≤ sizeLine; decide), fun t nt => fin (y := .un k d x p) nt S5 F6 (.cons (.str _) (.cons (.int _) (.cons hu5 (.cons (.int _) .nil)))) (nx_mk (r := r.getD 3 0) (x := .un k d x p) (fun _ => rfl) one onw (Nat.le_of_ble_eq_true rfl) (Nat.le_of_ble_eq_true rfl) _ _ nxt)⟩
    refine ⟨_, rfl, _, _, rfl, rfl, _, rfl, ite3 (fun _ => ?_) (fun _ => ?_)⟩
    · refine ⟨(by show 6 ≤ sizeLine; decide), fun l nl => ⟨_, rfl, tgN τ4 l (7, 0, 0), st, g, 6, rfl, I.s.new nl, by decide, by decide, fun v H5 v0 v1 S5 F5 => ?_⟩⟩
      have hl5 := F5.s.fr l _ upd_same (by rw [tg_same]; simp)
      have F6 := (F.new nl (o := .lst [V.str "add", V.str "sub", V.str "mul", V.str "div", V.str "mod", V.str "rem"])).tr F5
      have hu5 := (hu.keep (KT.new nl (o := .lst [V.str "add", V.str "sub", V.str "mul", V.str "div", V.str "mod", V.str "rem"]))).keep F5.k
      have sh5 := (I.sh.step ((Stp.refl (S := [])).new nl (x := (7, 0, 0))) (by simp)).step F5.s (by simp)
      obtain ⟨k, rfl⟩ : ∃ k : Nat, v = (k : Int) := ⟨v.toNat, by omega⟩
      have hk := nmB_at ⟨k, by omega⟩
      refine ⟨_, _, _, _, rfl, rfl, SqL.of hl5, atI_nat hk, ?_⟩
      refine ⟨_, rfl, _, rfl, _, rfl, _, rfl, _, rfl, _, st, g, ps n, r, _, rfl, S5, sh5.r n r e, by simp, g1, g2, g3, fun u2 x2 τ7 H7 hu2 hx2 S7 F7 => ?_⟩
      exact ⟨_, rfl, (by show 5 ≤ sizeLine; decide), fun t nt => fin (y := .bi ⟨k, by omega⟩ d x x2 p) nt S7 (F6.tr F7) (.cons (.str _) (.cons (.int _) (.cons (hu5.keep F7.k) (.cons hu2 (.cons (.int _) .nil))))) (nx_mk (r := r.getD 3 0) (x := .bi ⟨k, by omega⟩ d x x2 p) (fun _ => rfl) (two hx2) onw (Nat.le_of_ble_eq_true rfl) (Nat.le_of_ble_eq_true rfl) _ _ nxt)⟩
    refine ⟨_, rfl, _, _, rfl, rfl, _, rfl, ite3 (fun _ => ?_) (fun _ => ?_)⟩
    · refine ⟨(by show 2 ≤ sizeLine; decide), fun l nl => ⟨_, rfl, tgN τ4 l (7, 0, 0), st, g, 2, rfl, I.s.new nl, by decide, by decide, fun v H5 v0 v1 S5 F5 => ?_⟩⟩
      have hl5 := F5.s.fr l _ upd_same (by rw [tg_same]; simp)
      have F6 := (F.new nl (o := .lst [V.str "less", V.str "equal"])).tr F5
      have hu5 := (hu.keep (KT.new nl (o := .lst [V.str "less", V.str "equal"]))).keep F5.k
      have sh5 := (I.sh.step ((Stp.refl (S := [])).new nl (x := (7, 0, 0))) (by simp)).step F5.s (by simp)
      obtain ⟨k, hk⟩ : ∃ k : Bool, atI [V.str "less", V.str "equal"] v = some (V.str (nmC k)) := by
        obtain rfl | rfl : v = 0 ∨ v = 1 := by omega
        · exact ⟨false, at0⟩
        · exact ⟨true, atI_nat (j := 1) rfl⟩
      refine ⟨_, _, _, _, rfl, rfl, SqL.of hl5, hk, _, rfl, _, rfl, _, rfl, _, rfl, _, st, g, ps n, r, _, rfl, S5, sh5.r n r e, by simp, g1, g2, g3, fun u2 x2 τ7 H7 hu2 hx2 S7 F7 => ?_⟩
      exact ⟨(by show 4 ≤ sizeLine; decide), fun t nt => fin (y := .cm k d x x2) nt S7 (F6.tr F7) (.cons (.str _) (.cons (.int _) (.cons (hu5.keep F7.k) (.cons hu2 .nil)))) (nx_mk (r := r.getD 3 0) (x := .cm k d x x2) (fun _ => rfl) (two hx2) onw (Nat.le_of_ble_eq_true rfl) (Nat.le_of_ble_eq_true rfl) _ _ nxt)⟩
    refine ⟨_, rfl, rfl, _, rfl, ite3 (fun _ => ?_) (fun _ => ?_)⟩
    · refine ⟨_, rfl, τ4, st, g, 5, rfl, I.s, by decide, by decide, fun v H5 v0 v1 S5 F5 => ⟨_, _, rfl, rfl, ?_⟩⟩
      refine ⟨_, rfl, _, rfl, _, rfl, _, rfl, τ4, st, g, 5, rfl, S5, by decide, by decide, fun v2 H6 w0 w1 S6 F6 => ⟨_, _, rfl, rfl, _, rfl, ?_⟩⟩
      exact ⟨(by show 5 ≤ sizeLine; decide), fun t nt => fin (y := .ck x _ _ p) nt S6 ((F.tr F5).tr F6) (.cons (.str _) (.cons ((hu.keep F5.k).keep F6.k) (.cons (.int _) (.cons (.int _) (.cons (.int _) .nil))))) (nx_mk (r := r.getD 3 0) (x := .ck x _ _ p) (fun _ => rfl) one (fun _ z => nomatch z) (Nat.le_of_ble_eq_true rfl) (Nat.le_of_ble_eq_true rfl) _ _ nxt)⟩
    refine ⟨_, rfl, _, _, rfl, rfl, _, rfl, ite3 (fun _ => ?_) (fun _ => ?_)⟩
    · exact ⟨_, rfl, _, rfl, _, rfl, τ4, st, g, sl, ps, hs, n, r, rfl, I.s, I.sh, ok, e, fun u2 y τ5 H5 hu2 hy S5 F5 => q _ y τ5 H5 hu2 (hy _ _ nxt) S5 (F.tr F5)⟩
    refine ⟨_, rfl, rfl, _, rfl, ite3 (fun _ => ?_) (fun _ => ?_)⟩
    · refine ⟨_, rfl, _, rfl, _, rfl, τ4, st, g, tk, bs, i, _, rfl, I.s, I.tk, by simp, hi, hb, fun t H5 t0 t1 S5 F5 => ⟨(by show 2 ≤ sizeLine; decide), fun p2 np => ?_⟩⟩
      exact fin (y := .jm t) np S5 (F.tr F5) (.cons (.str _) (.cons (.int _) .nil)) ⟨fun _ z => (nomatch z), fun _ z => (nomatch z), fun y hy => by rw [List.mem_singleton.mp hy]; exact ⟨t0, t1⟩, Nat.le_of_ble_eq_true rfl, Nat.le_of_ble_eq_true rfl⟩
    refine ⟨_, rfl, _, _, rfl, rfl, _, rfl, ite3 (fun _ => ?_) (fun _ => ?_)⟩
    · refine ⟨_, rfl, _, rfl, _, rfl, _, rfl, τ4, st, g, tk, bs, i, _, rfl, I.s, I.tk, by simp, hi, hb, fun t H5 t0 t1 S5 F5 => ⟨(by show 3 ≤ sizeLine; decide), fun p2 np => ?_⟩⟩
      refine fin (y := .br x t) np S5 (F.tr F5) (.cons (.str _) (.cons (hu.keep F5.k) (.cons (.int _) .nil))) ⟨one, fun _ z => (nomatch z), fun y hy => ?_, Nat.le_of_ble_eq_true rfl, Nat.le_of_ble_eq_true rfl⟩
      rcases List.mem_cons.mp hy with w | w
      · rw [w]; exact nxt
      · rw [List.mem_singleton.mp w]; exact ⟨t0, t1⟩
    refine ⟨_, rfl, _, _, rfl, rfl, _, rfl, ite3 (fun _ => ?_) (fun _ => ?_)⟩
    · exact ⟨_, rfl, _, rfl, _, rfl, τ4, st, g, sl, ps, hs, n, r, rfl, I.s, I.sh, ok, e, fun u2 y τ5 H5 hu2 hy S5 F5 => q _ y τ5 H5 hu2 (hy _ _ nxt) S5 (F.tr F5)⟩
    refine ⟨_, rfl, rfl, _, rfl, ite3 (fun _ => ?_) (fun _ => ?_)⟩
    · refine ⟨_, rfl, τ4, st, g, 5, rfl, I.s, by decide, by decide, fun v H5 v0 v1 S5 F5 => ⟨_, rfl, (by show 3 ≤ sizeLine; decide), fun p2 np => ?_⟩⟩
      exact fin (y := .ra v p) np S5 (F.tr F5) (.cons (.str _) (.cons (.int _) (.cons (.int _) .nil))) ⟨fun _ z => (nomatch z), fun _ z => (nomatch z), fun _ z => (nomatch z), Nat.le_of_ble_eq_true rfl, Nat.le_of_ble_eq_true rfl⟩
    -- again
    refine ⟨fun σ H' => ∃ (τ' : Tg), InIn K τ' H' st g sl ps hs tk rl bs us rs ∧ GS K τ τ' H H' ∧ DT K H' u (opD x) ∧ σ = [some (.ref st), some (.ref sl), some (.int n), some (.int i), some (.ref tk), some (.ref rl), some (.ref (ps n)), some (.int c), some (.int d), some (.int p), some u, none, none, none, none], ?_, ?_⟩
    · refine ⟨_, rfl, rfl, _, rfl, ite3 (fun _ => ?_) (fun _ => ⟨τ4, I, F, hu, rfl⟩)⟩
      refine ⟨_, rfl, (by show 0 ≤ sizeLine; decide), fun z nz => ?_⟩
      have I5 := I.gs (I.s.new nz (o := .lst []) (x := (7, 0, 0))) (GS.refl.new nz)
      have F5 := F.new nz (o := .lst []) (x := (7, 0, 0))
      have hu5 := hu.keep (KT.new nz (o := .lst []))
      refine ⟨_, _, .lst (SqL.of I5.rl.1) I5.rd.dps, .lst (SqL.of upd_same) .nil, shaped_regs _, rfl, _, rfl, ?_⟩
      rw [eqv_regs]
      have lus : us.length = rs.length := by rw [I5.rd.len, List.length_map]
      cases hrs : rs with
      | nil =>
        refine iteF ⟨_, ?_, F5, hu5, rfl⟩
        rw [hrs] at I5; exact I5
      | cons r0 rr =>
        refine iteT ?_
        have l0 : 0 < rs.length := by rw [hrs]; exact Nat.succ_pos _
        refine ⟨_, rfl, _, rfl, _, rfl, _, _, rfl, .inl (SqL.of I5.rl.1), _, st, g, _, rfl, I5.s, by omega, by omega, fun v H6 v0 v1 S6 F6 => ?_⟩
        have I6 := I5.gs S6 F6
        obtain ⟨j, rfl⟩ : ∃ j : Nat, v = (j : Int) := ⟨v.toNat, by omega⟩
        obtain ⟨q0, hq0⟩ : ∃ q0, rs[j]? = some q0 := ⟨_, List.getElem?_eq_getElem (by omega)⟩
        obtain ⟨w0, hw0, dw0⟩ := I6.rd.get (i := j) (d := regD q0) (by rw [List.getElem?_map, hq0]; rfl)
        have bq := br q0 (List.mem_of_getElem? hq0)
        obtain ⟨pq, xq, rfl, sq, dq⟩ := dw0.ts
        obtain ⟨a0, a1, a2, a3, a4, rfl⟩ : ∃ a0 a1 a2 a3 a4, q0 = [a0, a1, a2, a3, a4] := by
          have := bq.l
          match q0, this with
          | [a0, a1, a2, a3, a4], _ => exact ⟨_, _, _, _, _, rfl⟩
        obtain ⟨_, y1, rfl, k1, dq⟩ := dq.un
        obtain ⟨_, y2, rfl, k2, dq⟩ := dq.un
        obtain ⟨_, y3, rfl, k3, dq⟩ := dq.un
        obtain ⟨_, y4, rfl, k4, dq⟩ := dq.un
        obtain ⟨_, y5, rfl, k5, dq⟩ := dq.un
        obtain rfl := k4.i
        obtain rfl := k5.i
        refine ⟨_, _, _, _, rfl, rfl, SqL.of I6.rl.1, atI_nat hw0, ?_⟩
        refine ⟨_, rfl, _, _, _, _, rfl, rfl, sq, atI_nat (j := 3) rfl, (by show 2 ≤ sizeLine; decide), fun t1 n1 => ?_⟩
        have sq1 := KT.new n1 (o := .tup [.str "reg", .int a3]) _ _ sq
        refine ⟨_, rfl, _, _, _, _, rfl, rfl, sq1, atI_nat (j := 4) rfl, (by show 2 ≤ sizeLine; decide), fun t2 n2 => ?_⟩
        refine ⟨(by show 3 ≤ sizeLine; decide), fun t nt => ?_⟩
        have S8 := (S6.new n1 (o := .tup [.str "reg", .int a3]) (x := (7, 0, 0))).new n2 (o := .tup [.str "reg", .int a4]) (x := (7, 0, 0))
        have F8 := (((F5.tr F6).new n1 (o := .tup [.str "reg", .int a3]) (x := (7, 0, 0))).new n2 (o := .tup [.str "reg", .int a4]) (x := (7, 0, 0)))
        have d1 : DT K (upd (upd H6 t1 (.tup [.str "reg", .int a3])) t2 (.tup [.str "reg", .int a4])) (.ref t1) (opD ("reg", a3)) := .tup (KT.new n2 _ _ (SqT.of upd_same)) (.cons (.str _) (.cons (.int _) .nil))
        have d2 : DT K (upd (upd H6 t1 (.tup [.str "reg", .int a3])) t2 (.tup [.str "reg", .int a4])) (.ref t2) (opD ("reg", a4)) := .tup (SqT.of upd_same) (.cons (.str _) (.cons (.int _) .nil))
        refine fin (y := .ag ("reg", a3) ("reg", a4)) nt S8 F8 (.cons (.str _) (.cons d1 (.cons d2 .nil))) ⟨fun y hy => ?_, fun _ z => (nomatch z), fun _ z => (nomatch z), Nat.le_of_ble_eq_true rfl, Nat.le_of_ble_eq_true rfl⟩
        rcases List.mem_cons.mp hy with w | w
        · rw [w]; exact .inr ⟨rfl, bq.f⟩
        · rw [List.mem_singleton.mp w]; exact .inr ⟨rfl, bq.s⟩
    clear I F hu fin
    rintro σ H5 ⟨τ5, I, F, hu, rfl⟩
    have fin : ∀ {y : In} {τ6 : Tg} {H6 : Hp} {vs : List V} {t : Addr}, H6 t = none → StT τ6 H6 st g → GS K τ τ6 H H6 → DTs K H6 vs (.str y.nm :: y.ds) → y.ok (r.getD 3 0) bs.length i → Q (.ref t) (upd H6 t (.tup vs)) := fun nt S5 F5 D5 ho =>
      q _ _ _ _ (.tup (SqT.of upd_same) (D5.keep (KT.new nt))) ho (S5.new nt (x := (7, 0, 0))) (F5.new nt)
    refine ⟨_, rfl, rfl, _, rfl, ite3 (fun _ => ?_) (fun _ => ?_)⟩
    · exact ⟨_, rfl, _, rfl, (by show 3 ≤ sizeLine; decide), fun t nt => fin (y := .ge d p) nt I.s F (.cons (.str _) (.cons (.int _) (.cons (.int _) .nil))) (nx_mk (r := r.getD 3 0) (x := .ge d p) (fun _ => rfl) (fun _ z => nomatch z) onw (Nat.le_of_ble_eq_true rfl) (Nat.le_of_ble_eq_true rfl) _ _ nxt)⟩
    refine ⟨_, rfl, rfl, _, rfl, ite3 (fun _ => ?_) (fun _ => ?_)⟩
    · have b1 := o.s
      refine ⟨_, rfl, _, _, _, _, rfl, rfl, SqL.of (I.sh.r n r e).1, atI_nat (at_map (j := 2) (by rw [o.l]; decide)), _, rfl, by omega, by omega, fun L nL => ?_⟩
      refine lc_range (lo := 0) (n := (r.getD 2 0).toNat) (fun j H' => ∃ (τ' : Tg) (us : List V) (xs : List Op), StT τ' H' st g ∧ GS K τ τ' H H' ∧ ShT τ' H' sl ps hs ∧ At τ' H' L (.lst us) (8, 1, 0) ∧ DTs K H' us (xs.map opD) ∧ xs.length = j ∧ ∀ y ∈ xs, In.OpOk (r.getD 3 0) y) ⟨tgN τ5 L (8, 1, 0), [], [], I.s.new nL, F.new nL, I.sh.step ((Stp.refl (S := [])).new nL (x := (8, 1, 0))) (by simp), At.mk, .nil, rfl, fun _ z => nomatch z⟩ ?_ ?_
      · rintro j H6 hj ⟨τ6, vs, xs, S6, F6, sh6, L6, D6, l6, b6⟩
        refine ⟨rfl, _, rfl, _, rfl, τ6, st, g, ps n, r, _, rfl, S6, sh6.r n r e, by simp, g1, g2, g3, fun u2 x2 τ7 H7 hu2 hx2 S7 F7 => ?_⟩
        have L7 := L6.st F7.s (by simp)
        have D7 := D6.keep F7.k
        have lus : vs.length = j := by rw [D7.len, List.length_map, l6]
        refine ⟨vs, L7.1, sz (by omega), τ7, vs ++ [u2], xs ++ [x2], S7.step ((Stp.refl (S := [8])).put (mem1 L7.2 rfl)) (by simp), (F6.tr F7).put (F.free nL) L7.1, (sh6.step F7.s (by simp)).step ((Stp.refl (S := [8])).put (mem1 L7.2 rfl)) (by simp), .set L7.2, ?_, by simp [l6], fun y hy => ?_⟩
        · rw [List.map_append]
          exact (D7.keep (KT.put L7.1)).app (.cons (hu2.keep (KT.put L7.1)) .nil)
        · rcases List.mem_append.mp hy with z | z
          · exact b6 y z
          · rw [List.mem_singleton.mp z]; exact hx2
      · rintro H6 ⟨τ6, vs, xs, S6, F6, sh6, L6, D6, l6, b6⟩
        refine ⟨L, _, rfl, .inl ⟨SqL.of L6.1, fun t nt => ⟨(by show 2 ≤ sizeLine; decide), fun t2 nt2 => ?_⟩⟩⟩
        have d1 : DT K (upd H6 t (.tup vs)) (.ref t) (.tuple (xs.map opD)) := .tup (SqT.of upd_same) (D6.keep (KT.new nt))
        exact fin (y := .re xs) nt2 (S6.new nt (x := (7, 0, 0))) (F6.new nt) (.cons (.str _) (.cons d1 .nil)) ⟨b6, fun _ z => (nomatch z), fun _ z => (nomatch z), by show xs.length ≤ 10; omega, Nat.le_of_ble_eq_true rfl⟩
    · exact ⟨_, rfl, (by show 2 ≤ sizeLine; decide), fun t nt => fin (y := .pu x) nt I.s F (.cons (.str _) (.cons hu .nil)) (nx_mk (r := r.getD 3 0) (x := .pu x) (fun _ => rfl) one (fun _ z => nomatch z) (Nat.le_of_ble_eq_true rfl) (Nat.le_of_ble_eq_true rfl) _ _ nxt)⟩
end

theorem un_ne2 : ¬ ("registers" : Str) = "regions" := by decide +kernel
theorem un_ne3 : ¬ ("registers" : Str) = "code" := by decide +kernel
theorem un_ne4 : ¬ ("registers" : Str) = "cells" := by decide +kernel
theorem un_rs (v0 v1 v2 v3 v4 v5 v6 : V) : (unF v0 v1 v2 v3 v4 v5 v6).lookup ("registers" : Str) = some v3 :=
  (((lookup_putF "regions" "registers" v6 _).trans (if_neg un_ne2)).trans ((lookup_putF "code" "registers" v5 _).trans (if_neg un_ne3))).trans (((lookup_putF "cells" "registers" v4 _).trans (if_neg un_ne4)).trans ((lookup_putF "registers" "registers" v3 _).trans (if_pos rfl)))
theorem rep_bl (n : Nat) : (List.replicate n [V.bl false]).flatten = (List.replicate n false).map V.bl := by
  induction n with
  | zero => rfl
  | succ n ih => rw [List.replicate_succ, List.flatten_cons, ih, List.replicate_succ]; rfl
theorem KT.putI {K : PySem.W.Frag} {H : Hp} {p C d : Addr} {fs : List (Str × V)} {o : HO} (e : H p = some (.ins C d fs)) : KT K H (upd H p o) := fun a xs h => by
  rcases h with (h | ⟨u, h⟩) | h
  · exact .inl (.inl (by rw [upd_ne (ne_of h e fun z => nomatch z)]; exact h))
  · exact .inl (.inr ⟨u, by rw [upd_ne (ne_of h e fun z => nomatch z)]; exact h⟩)
  · exact .inr h
theorem GS.putI {K : PySem.W.Frag} {τ τ' : Tg} {H H' : Hp} {D C d : Addr} {fs : List (Str × V)} {o : HO} (h : GS K τ τ' H H') (n : H D = none) (e : H' D = some (.ins C d fs)) : GS K τ τ' H (upd H' D o) :=
  ⟨⟨fun b u q m => by rw [upd_ne (ne_of_none q n)]; exact h.s.fr b u q m, h.s.ag, fun b q => by
    by_cases c : b = D
    · rw [c] at q; exact absurd n q
    · rw [upd_ne c]; exact h.s.al b q⟩, h.k.tr (KT.putI e)⟩
structure UnOk (g : Int) (xs : List In) (rs : List (List Int)) : Prop where
  n4 : 4 ≤ xs.length
  n9 : xs.length ≤ 100
  g3 : 3 ≤ g
  g9 : g ≤ 30
  x : ∀ (i : Nat) (x : In), xs[i]? = some x → x.ok g xs.length i
  r : ∀ q ∈ rs, RgA xs.length g q
  l : rs.length ≤ 3
structure UnT (K : PySem.W.Frag) (C : Addr) (τ : Tg) (H : Hp) (p : Addr) (g : Int) (xs : List In) (rs : List (List Int)) : Prop where
  o : ∃ dx v0 v1 v2 v4 ca ra us ws, At τ H p (.ins C dx (unF v0 v1 v2 (.int g) v4 (.ref ca) (.ref ra))) (2, 0, 0) ∧ SqT K H ca us ∧ DTs K H us (xs.map In.D) ∧ SqT K H ra ws ∧ DTs K H ws (rs.map regD)
  k : UnOk g xs rs
  a : ∃ (ar : Int) (dx : Addr) (v0 v2 v3 v4 : V) (ca ra : Addr), At τ H p (.ins C dx (unF v0 (.int ar) v2 v3 v4 (.ref ca) (.ref ra))) (2, 0, 0) ∧ 0 ≤ ar ∧ ar ≤ 6 ∧ ar ≤ g
theorem UnT.gs {K : PySem.W.Frag} {C : Addr} {τ τ' : Tg} {H H' : Hp} {p : Addr} {g : Int} {xs : List In} {rs : List (List Int)} (h : UnT K C τ H p g xs rs) (F : GS K τ τ' H H') : UnT K C τ' H' p g xs rs := by
  obtain ⟨dx, v0, v1, v2, v4, ca, ra, us, ws, h1, h2, h3, h4, h5⟩ := h.o
  exact ⟨⟨dx, v0, v1, v2, v4, ca, ra, us, ws, h1.st F.s (by simp), F.k _ _ h2, h3.keep F.k, F.k _ _ h4, h5.keep F.k⟩, h.k, by
    obtain ⟨ar, dx, v0, v2, v3, v4, ca, ra, h1, h2, h3⟩ := h.a
    exact ⟨ar, dx, v0, v2, v3, v4, ca, ra, h1.st F.s (by simp), h2, h3⟩⟩
def spUnitT (K : PySem.W.Frag) (C : Addr) : Sp := fun vs H Q _ => ∃ (τ : Tg) (st g sl : Addr) (ps : Nat → Addr) (hs : List (List Int)) (n : Nat) (r : List Int), vs = [.ref st, .ref sl, .int n] ∧ StT τ H st g ∧ ShT τ H sl ps hs ∧ ShsOk hs ∧ hs[n]? = some r ∧
  ∀ (p : Addr) (xs : List In) (rs : List (List Int)) (τ' : Tg) (H' : Hp), UnT K C τ' H' p (r.getD 3 0) xs rs → StT τ' H' st g → GS K τ τ' H H' → Q (.ref p) H'
section
variable {P : Program} {w : World} {K : PySem.W.Frag} {mg : Str → Option Value} {base : Heap} {a : Ad}
theorem ok_law_unit (T : Txt K mg a) : FnOk P w K mg base CX0 5 a.f_law_unit a.d_law_unit ["state", "shapes", "number"] (spUnitT K a.C_Unit) := by
  have G_law_take : FnOk P w K mg base CX0 1 _ _ _ _ := ok_takeT T
  have G_law_operand : FnOk P w K mg base CX0 2 _ _ _ _ := ok_law_operand T
  have G_law_regions : FnOk P w K mg base CX0 2 _ _ _ _ := ok_law_regions T
  have G_law_instruction : FnOk P w K mg base CX0 4 _ _ _ _ := ok_law_instruction T
  have G_Unit___init__ : FnOk P w K mg base CX0 1 _ _ _ _ := ok_Unit___init__ T
  refine T.F__law_unit.ok sc_law_unit (fun vs H Q E h => ?_) (fun cdv A outer s H vs Q E hr h => ?_)
  · obtain ⟨_, _, _, _, _, _, _, _, rfl, _⟩ := h; rfl
  · obtain ⟨τ, st, g, sl, ps, hs, n, r, rfl, S, sh, ok, e, q⟩ := h
    refine ⟨_, (C8.pss_cut (ps_set (i := 3) sc_law_unit.nd rfl (Or.inr rfl) (pe_ix ix_list (pv 1) (pv 2) (fun _ _ => rfl)))
      (C8.pss_cut (ps_set (i := 4) sc_law_unit.nd rfl (Or.inl rfl) (pe_op op_mul (pe_ix ix_list (pv 3) pe_int (fun _ _ => rfl)) (pe_callTy call_int1 (by rfl) T.b_int (by decide +kernel) (pa_cons (pe_cmpR op_gt (pe_ix ix_list (pv 3) pe_int (fun _ _ => rfl)) pe_int (nomark _)) pa_nil))))
      (C8.pss_cut (ps_set (i := 5) sc_law_unit.nd rfl (Or.inl rfl) (pe_op op_add (pe_op op_add pe_int (pe_op op_mul pe_int (pv 4))) (pe_call G_law_take (hr.mono (by decide)) rfl T.g__law_take T.k__law_take T.bd__law_take .nil pass0 (pa_cons (pv 0) (pa_cons pe_int pa_nil)))))
      (C8.pss_cut (ps_set (i := 6) sc_law_unit.nd rfl (Or.inr rfl) (pe_op op_rep (pe_lst (pa_cons pe_bl pa_nil)) (pv 5)))
      (C8.pss_cut (ps_asg pe_bl (pg_sub (pv 6) pe_int set_list))
      (C8.pss_cut (ps_for PassesOwn.never rfl (pi_range2 rfl T.b_range (pa_cons (pe_op op_add pe_int (pv 4)) (pa_cons (pe_op op_sub (pe_op op_sub (pv 5) pe_int) (pv 4)) pa_nil))) (pg_name (i := 7) sc_law_unit.nd rfl (Or.inl rfl)) (pss_one (ps_asg (pe_cmpR op_eq (pe_call G_law_take (hr.mono (by decide)) rfl T.g__law_take T.k__law_take T.bd__law_take .nil pass0 (pa_cons (pv 0) (pa_cons pe_int pa_nil))) pe_int (nomark _)) (pg_sub (pv 6) (pv 7) set_list))))
      (C8.pss_cut (ps_set (i := 8) sc_law_unit.nd rfl (Or.inl rfl) (pe_call G_law_regions (hr.mono (by decide)) rfl T.g__law_regions T.k__law_regions T.bd__law_regions .nil pass0 (pa_cons (pv 0) (pa_cons (pv 3) (pa_cons (pv 5) pa_nil)))))
      (C8.pss_cut (ps_set (i := 9) sc_law_unit.nd rfl (Or.inl rfl) (pe_cmpR op_eq (pe_call G_law_take (hr.mono (by decide)) rfl T.g__law_take T.k__law_take T.bd__law_take .nil pass0 (pa_cons (pv 0) (pa_cons pe_int pa_nil))) pe_int (nomark _)))
      (C8.pss_cut (ps_set (i := 10) sc_law_unit.nd rfl (Or.inl rfl) (pe_lst (pa_cons (pe_tup (pa_cons pe_str pa_nil)) pa_nil)))
      (C8.pss_cut (ps_for PassesOwn.never rfl (pi_range2 rfl T.b_range (pa_cons pe_int (pa_cons (pe_op op_sub (pv 5) pe_int) pa_nil))) (pg_name (i := 7) sc_law_unit.nd rfl (Or.inl rfl)) (pss_one (ps_if (pt_val (pe_ix ix_list (pv 6) (pv 7) (fun _ _ => rfl))) (pss_one (ps_expr (pe_bm PySem.F.plainAttrs_list PySem.F.slot_list_append PySem.F.type_list_append mt_append (pv 10) (pa_cons (pe_tup (pa_cons pe_str pa_nil)) pa_nil)))) (pss_one (ps_if (pt_cmpR op_le (pv 7) (pv 4) (nomark _)) (pss_one (ps_expr (pe_bm PySem.F.plainAttrs_list PySem.F.slot_list_append PySem.F.type_list_append mt_append (pv 10) (pa_cons (pe_ix ix_list (pe_lst (pa_cons (pe_tup (pa_cons pe_str (pa_cons (pe_op op_sub (pv 7) pe_int) (pa_cons (pe_tup (pa_cons pe_str (pa_cons (pe_op op_add pe_int (pv 7)) pa_nil))) pa_nil)))) (pa_cons (pe_tup (pa_cons pe_str (pa_cons (pe_tup (pa_cons pe_str (pa_cons (pv 7) pa_nil))) pa_nil))) pa_nil))) (pe_callTy call_int1 (by rfl) T.b_int (by decide +kernel) (pa_cons (pv 9) pa_nil)) (fun _ _ => rfl)) pa_nil)))) (pss_one (ps_if (pt_cmpR op_ge (pv 7) (pe_op op_sub (pe_op op_sub (pv 5) pe_int) (pv 4)) (nomark _)) (pss_one (ps_expr (pe_bm PySem.F.plainAttrs_list PySem.F.slot_list_append PySem.F.type_list_append mt_append (pv 10) (pa_cons (pe_tup (pa_cons pe_str (pa_cons (pe_tup (pa_cons pe_str (pa_cons (pe_op op_add (pe_op op_add (pe_op op_sub (pv 7) (pv 5)) pe_int) (pv 4)) pa_nil))) pa_nil))) pa_nil)))) (pss_one (ps_expr (pe_bm PySem.F.plainAttrs_list PySem.F.slot_list_append PySem.F.type_list_append mt_append (pv 10) (pa_cons (pe_call G_law_instruction (hr.mono (by decide)) rfl T.g__law_instruction T.k__law_instruction T.bd__law_instruction .nil pass0 (pa_cons (pv 0) (pa_cons (pv 1) (pa_cons (pv 2) (pa_cons (pv 7) (pa_cons (pv 6) (pa_cons (pv 8) pa_nil))))))) pa_nil)))))))))))
      (C8.pss_cut (ps_set (i := 11) sc_law_unit.nd rfl (Or.inl rfl) (pe_tup (pa_cons pe_str (pa_cons (pe_callTy call_tuple_of (by rfl) T.b_tuple (by decide +kernel) (pa_cons (pe_lc (own := [("k", 12)]) (g := gName 12) rfl sc_law_unit.nd (pi_range1 rfl T.b_range (pa_cons (pe_ix ix_list (pv 3) pe_int (fun _ _ => rfl)) pa_nil)) (blkOk_by (own := [("k", 12)]) (N := ["state", "shapes", "number", "shape", "wide", "size", "ticks", "index", "regions", "bare", "code", "last", "k", "ends"]) (sc := defScope s_law_unit) (by decide +kernel)) (fun _ _ _ _ _ => pg_name (i := 12) sc_law_unit.nd rfl (Or.inl rfl)) (fun _ _ _ _ _ => pts_nil) (fun _ _ _ _ _ => (pe_call G_law_operand (hr.mono (by decide)) rfl T.g__law_operand T.k__law_operand T.bd__law_operand .nil pass0 (pa_cons (pv 0) (pa_cons (pv 3) pa_nil))))) pa_nil)) pa_nil))))
      (C8.pss_cut (ps_setLc (i := 13) (own := [("k", 12)]) (g := gName 12) rfl sc_law_unit.nd rfl rfl (sw_true rfl rfl rfl (by decide +kernel)) (pi_range1 rfl T.b_range (pa_cons (pe_op op_sub (pv 5) pe_int) pa_nil)) (blkOk_by (own := [("k", 12)]) (N := ["state", "shapes", "number", "shape", "wide", "size", "ticks", "index", "regions", "bare", "code", "last", "k", "ends"]) (sc := defScope s_law_unit) (by decide +kernel)) (fun _ _ _ _ _ => pg_name (i := 12) sc_law_unit.nd rfl (Or.inl rfl)) (fun _ _ _ _ _ => (pts_one (pt_val (pe_ix (ix_listK (K := K) rfl) (pv 6) (pv 12) (fun _ _ => rfl))))) (fun _ _ _ _ _ => (pv 12)))
      (C8.pss_cut (ps_if (pt_cmpR op_eq (pe_call G_law_take (hr.mono (by decide)) rfl T.g__law_take T.k__law_take T.bd__law_take .nil pass0 (pa_cons (pv 0) (pa_cons pe_int pa_nil))) pe_int (nomark _)) (pss_one (ps_set (i := 11) sc_law_unit.nd rfl (Or.inl rfl) (pe_ix ix_list (pe_lst (pa_cons (pe_tup (pa_cons pe_str (pa_cons (pe_ix ix_list (pv 13) (pe_call G_law_take (hr.mono (by decide)) rfl T.g__law_take T.k__law_take T.bd__law_take .nil pass0 (pa_cons (pv 0) (pa_cons (pe_callB call_len_seq (by rfl) T.b_len (by decide +kernel) (pa_cons (pv 13) pa_nil)) pa_nil))) (fun _ _ => rfl)) pa_nil))) (pa_cons (pe_tup (pa_cons pe_str (pa_cons (pe_call G_law_take (hr.mono (by decide)) rfl T.g__law_take T.k__law_take T.bd__law_take .nil pass0 (pa_cons (pv 0) (pa_cons pe_int pa_nil))) (pa_cons (pe_call G_law_take (hr.mono (by decide)) rfl T.g__law_take T.k__law_take T.bd__law_take .nil pass0 (pa_cons (pv 0) (pa_cons pe_int pa_nil))) pa_nil)))) pa_nil))) (pe_call G_law_take (hr.mono (by decide)) rfl T.g__law_take T.k__law_take T.bd__law_take .nil pass0 (pa_cons (pv 0) (pa_cons pe_int pa_nil))) (fun _ _ => rfl)))) pss_nil)
      (C8.pss_cut (ps_expr (pe_bm PySem.F.plainAttrs_list PySem.F.slot_list_append PySem.F.type_list_append mt_append (pv 10) (pa_cons (pv 11) pa_nil)))
      (pss_one (ps_ret (pe_make T.mk_Unit G_Unit___init__ (hr.mono (by decide)) rfl T.g_Unit T.bd_Unit___init__ .nil pass0 (pa_cons (pe_ix ix_list (pv 3) pe_int (fun _ _ => rfl)) (pa_cons (pe_ix ix_list (pv 3) pe_int (fun _ _ => rfl)) (pa_cons (pe_ix ix_list (pv 3) pe_int (fun _ _ => rfl)) (pa_cons (pe_ix ix_list (pv 3) pe_int (fun _ _ => rfl)) (pa_cons (pe_ix ix_list (pv 3) pe_int (fun _ _ => rfl)) (pa_cons (pe_callTy call_tuple_of (by rfl) T.b_tuple (by decide +kernel) (pa_cons (pv 10) pa_nil)) (pa_cons (pe_callTy call_tuple_of (by rfl) T.b_tuple (by decide +kernel) (pa_cons (pv 8) pa_nil)) pa_nil)))))))))))))))))))))))), ?_⟩
    obtain ⟨o, ob⟩ := ok.2 n r e
    have hn := (List.getElem?_eq_some_iff.mp e).1
    obtain ⟨g1, g2, g3⟩ := o.big
    have gg := o.g
    have hl := ok.1
    have hsh0 := atI_nat (rng_at (f := fun k => V.ref (ps k)) hn)
    refine ⟨fun σ H' => H = H' ∧ σ = [some (.ref st), some (.ref sl), some (.int n), some (.ref (ps n)), none, none, none, none, none, none, none, none, none, none], ⟨_, rfl, _, rfl, _, _, _, _, rfl, rfl, SqL.of sh.l.1, hsh0, rfl, rfl⟩, ?_⟩
    rintro σ H0 ⟨rfl, rfl⟩
    refine ⟨fun σ H' => H = H' ∧ ∃ wd : Nat, ((wd : Int) = r.getD 3 0 ∨ wd = 0) ∧ σ = [some (.ref st), some (.ref sl), some (.int n), some (.ref (ps n)), some (.int wd), none, none, none, none, none, none, none, none, none], ?_, ?_⟩
    · refine ⟨_, rfl, _, _, _, _, rfl, rfl, SqL.of (sh.r n r e).1, atI_nat (at_map (j := 3) g1), _, rfl, _, _, _, _, rfl, rfl, SqL.of (sh.r n r e).1, atI_nat (at_map (j := 3) g1), _, _, rfl, rfl, .inr ⟨_, rfl, _, _, rfl, rfl, .inl ⟨by omega, by omega⟩, rfl, ?_⟩⟩
      by_cases c : 14 < r.getD 3 0
      · refine ⟨(r.getD 3 0).toNat, .inl (by omega), ?_⟩
        rw [decide_eq_true c, show (((r.getD 3 0).toNat : Nat) : Int) = r.getD 3 0 * 1 by omega]
        rfl
      · refine ⟨0, .inr rfl, ?_⟩
        rw [decide_eq_false c, show ((0 : Nat) : Int) = r.getD 3 0 * 0 by omega]
        rfl
    rintro σ H0 ⟨rfl, wd, hwd, rfl⟩
    have w30 : wd ≤ 30 := by omega
    refine ⟨fun σ H' => StT τ H' st g ∧ GS K τ τ H H' ∧ ∃ z : Nat, 4 + 2 * wd ≤ z ∧ z ≤ 77 ∧ σ = [some (.ref st), some (.ref sl), some (.int n), some (.ref (ps n)), some (.int wd), some (.int z), none, none, none, none, none, none, none, none], ?_, ?_⟩
    · refine ⟨_, rfl, _, _, rfl, rfl, .inl ⟨by decide, by decide⟩, _, _, rfl, rfl, _, rfl, τ, st, g, 14, rfl, S, by decide, by decide, fun v H1 v0 v1 S1 F1 => ⟨_, _, rfl, rfl, S1, F1, (4 + 2 * (wd : Int) + v).toNat, by omega, by omega, ?_⟩⟩
      rw [show (((4 + 2 * (wd : Int) + v).toNat : Nat) : Int) = 4 + 2 * (wd : Int) + v by omega]
      rfl
    clear S
    rintro σ H1 ⟨S, F, z, z4, z77, rfl⟩
    refine ⟨fun σ H' => ∃ τ' tk, H tk = none ∧ StT τ' H' st g ∧ GS K τ τ' H H' ∧ At τ' H' tk (.lst ((List.replicate z false).map V.bl)) (5, 0, 0) ∧ σ = [some (.ref st), some (.ref sl), some (.int n), some (.ref (ps n)), some (.int wd), some (.int z), some (.ref tk), none, none, none, none, none, none, none], ?_, ?_⟩
    · refine ⟨(by show 1 ≤ sizeLine; decide), fun b nb => ⟨_, rfl, _, _, _, rfl, rfl, upd_same, by omega, by omega, (by show 1 * (z : Int).toNat ≤ sizeLine; have := sz (n := z) (by omega); omega), fun tk nk => ?_⟩⟩
      rw [show (z : Int).toNat = z from Int.toNat_natCast z, rep_bl]
      have F2 := (F.new nb (o := .lst [V.bl false]) (x := (7, 0, 0))).new nk (o := .lst ((List.replicate z false).map V.bl)) (x := (5, 0, 0))
      exact ⟨_, tk, (F.new nb (o := .lst [V.bl false]) (x := (7, 0, 0))).free nk, (S.new nb).new nk, F2, At.mk, rfl⟩
    clear S F
    rintro σ H2 ⟨τ2, tk, ntk, S, F, hk, rfl⟩
    have stick : ∀ {H' : Hp} {τ' : Tg} {bs : List Bool} {bs' : List Bool}, At τ' H' tk (.lst (bs.map V.bl)) (5, 0, 0) → StT τ' H' st g → StT τ' (upd H' tk (.lst (bs'.map V.bl))) st g := fun h s => s.step ((Stp.refl (S := [5])).put (mem1 h.2 rfl)) (by simp)
    refine ⟨fun σ H' => ∃ bs : List Bool, StT τ2 H' st g ∧ GS K τ τ2 H H' ∧ At τ2 H' tk (.lst (bs.map V.bl)) (5, 0, 0) ∧ bs.length = z ∧ bs[0]? = some true ∧ σ = [some (.ref st), some (.ref sl), some (.int n), some (.ref (ps n)), some (.int wd), some (.int z), some (.ref tk), none, none, none, none, none, none, none], ?_, ?_⟩
    · refine ⟨_, rfl, _, _, _, 0, rfl, rfl, hk.1, ?_, ?_⟩
      · exact (show ixN _ ((0 : Nat) : Int) = some 0 from ixN_nat (by rw [List.length_map, List.length_replicate]; omega))
      · rw [show ((List.replicate z false).map V.bl).set 0 (V.bl true) = ((List.replicate z false).set 0 true).map V.bl from (List.map_set ..).symm]
        exact ⟨_, stick hk S, F.put ntk hk.1, .set hk.2, by simp, by rw [List.getElem?_set_self (by simp; omega)], rfl⟩
    clear S F hk
    rintro σ H3 ⟨bs, S, F, hk, lb, b0, rfl⟩
    refine ⟨fun σ H' => ∃ (bs : List Bool) (x : Option V), StT τ2 H' st g ∧ GS K τ τ2 H H' ∧ At τ2 H' tk (.lst (bs.map V.bl)) (5, 0, 0) ∧ bs.length = z ∧ bs[0]? = some true ∧ σ = [some (.ref st), some (.ref sl), some (.int n), some (.ref (ps n)), some (.int wd), some (.int z), some (.ref tk), x, none, none, none, none, none, none], ?_, ?_⟩
    · refine ⟨_, rfl, _, _, rfl, rfl, _, rfl, _, _, rfl, rfl, _, rfl, _, _, rfl, rfl, _, _, rfl, ⟨by omega, by omega, by omega, by omega⟩, ?_⟩
      refine for_range (lo := 1 + (wd : Int)) (n := ((z : Int) - 1 - (wd : Int) - (1 + (wd : Int))).toNat) (fun i σ H' => ∃ (bs : List Bool) (x : Option V), StT τ2 H' st g ∧ GS K τ τ2 H H' ∧ At τ2 H' tk (.lst (bs.map V.bl)) (5, 0, 0) ∧ bs.length = z ∧ bs[0]? = some true ∧ σ = [some (.ref st), some (.ref sl), some (.int n), some (.ref (ps n)), some (.int wd), some (.int z), some (.ref tk), x, none, none, none, none, none, none]) ⟨bs, none, S, F, hk, lb, b0, rfl⟩ ?_ (fun σ H' h => h)
      clear S F hk lb b0
      rintro i σ H4 hi ⟨bs, x, S, F, hk, lb, b0, rfl⟩
      refine ⟨_, rfl, τ2, st, g, 5, rfl, S, by decide, by decide, fun v H5 v0 v1 S5 F5 => ⟨rfl, ?_⟩⟩
      have hk5 := hk.st F5.s (by simp)
      have F6 := F.tr F5
      have ei : 1 + (wd : Int) + (i : Int) = ((1 + wd + i : Nat) : Int) := by omega
      rw [ei]
      refine ⟨_, rfl, _, rfl, _, _, _, 1 + wd + i, rfl, rfl, hk5.1, ixN_nat (by rw [List.length_map]; omega), ?_⟩
      rw [show (bs.map V.bl).set (1 + wd + i) (V.bl (decide (V.int v = V.int 0))) = (bs.set (1 + wd + i) (decide (V.int v = V.int 0))).map V.bl from (List.map_set ..).symm]
      exact ⟨_, _, stick hk5 S5, F6.put ntk hk5.1, .set hk5.2, by rw [List.length_set]; exact lb, by rw [List.getElem?_set_ne (by omega)]; exact b0, rfl⟩
    clear S F hk lb b0
    rintro σ H4 ⟨bs, x7, S, F, hk, lb, b0, rfl⟩
    have sh4 := sh.step F.s (by simp)
    refine ⟨fun σ H' => ∃ (τ' : Tg) (rl : Addr) (us : List V) (rs : List (List Int)), InIn K τ' H' st g sl ps hs tk rl bs us rs ∧ GS K τ τ' H H' ∧ rs.length ≤ 3 ∧ (∀ q ∈ rs, RgA bs.length (r.getD 3 0) q) ∧ σ = [some (.ref st), some (.ref sl), some (.int n), some (.ref (ps n)), some (.int wd), some (.int z), some (.ref tk), x7, some (.ref rl), none, none, none, none, none], ?_, ?_⟩
    · refine ⟨_, rfl, _, rfl, _, rfl, τ2, st, g, ps n, r, _, z, rfl, S, sh4.r n r e, by simp, by simp, g1, gg.1, g3, by omega, by omega, fun L us rs τ5 H5 nL hL D br lr S5 F5 => ?_⟩
      exact ⟨τ5, L, us, rs, ⟨S5, sh4.step F5.s (by simp), hk.st F5.s (by simp), hL, D⟩, F.tr F5, lr, by rw [lb]; exact br, rfl⟩
    clear S F hk sh4
    rintro σ H5 ⟨τ5, rl, us, rs, I, F, lr, br, rfl⟩
    refine ⟨fun σ H' => InIn K τ5 H' st g sl ps hs tk rl bs us rs ∧ GS K τ τ5 H H' ∧ ∃ b : Bool, σ = [some (.ref st), some (.ref sl), some (.int n), some (.ref (ps n)), some (.int wd), some (.int z), some (.ref tk), x7, some (.ref rl), some (.bl b), none, none, none, none], ?_, ?_⟩
    · exact ⟨_, rfl, τ5, st, g, 3, rfl, I.s, by decide, by decide, fun v H6 v0 v1 S6 F6 => ⟨rfl, I.gs S6 F6, F.tr F6, _, rfl⟩⟩
    clear I F
    rintro σ H6 ⟨I, F, bare, rfl⟩
    refine ⟨fun σ H' => ∃ (τ' : Tg) (cl : Addr) (cs : List V), H cl = none ∧ InIn K τ' H' st g sl ps hs tk rl bs us rs ∧ GS K τ τ' H H' ∧ At τ' H' cl (.lst cs) (9, 0, 0) ∧ DTs K H' cs ([In.ti].map In.D) ∧ σ = [some (.ref st), some (.ref sl), some (.int n), some (.ref (ps n)), some (.int wd), some (.int z), some (.ref tk), x7, some (.ref rl), some (.bl bare), some (.ref cl), none, none, none], ?_, ?_⟩
    · refine ⟨(by show 1 ≤ sizeLine; decide), fun t nt => ⟨(by show 1 ≤ sizeLine; decide), fun cl nc => ?_⟩⟩
      have F7 := (GS.refl (K := K) (τ := τ5) (H := H6)).new nt (o := .tup [V.str "tick"]) (x := (7, 0, 0))
      have F8 := F7.new nc (o := .lst [V.ref t]) (x := (9, 0, 0))
      exact ⟨_, cl, _, (F.tr F7).free nc, I.gs ((I.s.new nt).new nc) F8, F.tr F8, At.mk, .cons (.tup (KT.new nc _ _ (SqT.of upd_same)) (.cons (.str _) .nil)) .nil, rfl⟩
    clear I F
    rintro σ H7 ⟨τ7, cl, cs, ncl, I, F, hc, D, rfl⟩
    have app : ∀ {H' : Hp} {τ' : Tg} {cs vs' : List V}, At τ' H' cl (.lst cs) (9, 0, 0) → InIn K τ' H' st g sl ps hs tk rl bs us rs → InIn K τ' (upd H' cl (.lst vs')) st g sl ps hs tk rl bs us rs := fun {H' τ' cs vs'} h I => by
      have F := (Stp.refl (τ := τ') (S := [9]) (H := H')).put (o := .lst vs') (mem1 h.2 rfl)
      exact ⟨I.s.step F (by simp), I.sh.step F (by simp), I.tk.st F (by simp), I.rl.st F (by simp), I.rd.keep (KT.put h.1)⟩
    refine ⟨fun σ H' => ∃ (τ' : Tg) (cs : List V) (xs : List In) (x : Option V), InIn K τ' H' st g sl ps hs tk rl bs us rs ∧ GS K τ τ' H H' ∧ At τ' H' cl (.lst cs) (9, 0, 0) ∧ DTs K H' cs (xs.map In.D) ∧ xs.length = z - 1 ∧ (∀ (k : Nat) (y : In), xs[k]? = some y → y.ok (r.getD 3 0) z k) ∧ σ = [some (.ref st), some (.ref sl), some (.int n), some (.ref (ps n)), some (.int wd), some (.int z), some (.ref tk), x, some (.ref rl), some (.bl bare), some (.ref cl), none, none, none], ?_, ?_⟩
    · refine ⟨_, rfl, _, _, rfl, rfl, _, _, rfl, ⟨by decide, by decide, by omega, by omega⟩, ?_⟩
      refine for_range (lo := 1) (n := ((z : Int) - 1 - 1).toNat) (fun i σ H' => ∃ (τ' : Tg) (cs : List V) (xs : List In) (x : Option V), InIn K τ' H' st g sl ps hs tk rl bs us rs ∧ GS K τ τ' H H' ∧ At τ' H' cl (.lst cs) (9, 0, 0) ∧ DTs K H' cs (xs.map In.D) ∧ xs.length = 1 + i ∧ (∀ (k : Nat) (y : In), xs[k]? = some y → y.ok (r.getD 3 0) z k) ∧ σ = [some (.ref st), some (.ref sl), some (.int n), some (.ref (ps n)), some (.int wd), some (.int z), some (.ref tk), x, some (.ref rl), some (.bl bare), some (.ref cl), none, none, none]) ⟨τ7, cs, [.ti], x7, I, F, hc, D, rfl, ?_, rfl⟩ ?_ ?_
      · intro k y hy
        cases k with
        | zero =>
          obtain rfl := (Option.some.inj hy).symm
          exact nx_mk (r := r.getD 3 0) (x := .ti) (fun _ => rfl) (fun _ z => nomatch z) (fun _ z => nomatch z) (Nat.le_of_ble_eq_true rfl) (Nat.le_of_ble_eq_true rfl) _ _ ⟨by omega, by omega⟩
        | succ k => simp at hy
      · clear I F hc D
        rintro i σ H8 hi ⟨τ8, cs, xs, x, I, F, hc, D, lx, bx, rfl⟩
        have ei : (1 : Int) + (i : Int) = ((1 + i : Nat) : Int) := by omega
        rw [ei]
        have lcs : cs.length = 1 + i := by rw [D.len, List.length_map, lx]
        have nxt : In.rg (z : Int) (((1 + i : Nat) : Int) + 1) := ⟨by omega, by omega⟩
        -- what an append leaves
        have fin : ∀ {y : In} {u : V} {τ9 : Tg} {H9 : Hp}, InIn K τ9 H9 st g sl ps hs tk rl bs us rs → GS K τ τ9 H H9 → At τ9 H9 cl (.lst cs) (9, 0, 0) → DTs K H9 cs (xs.map In.D) → DT K H9 u y.D → y.ok (r.getD 3 0) z (1 + i : Nat) →
            ∃ (τ' : Tg) (cs' : List V) (xs : List In) (x : Option V), InIn K τ' (upd H9 cl (.lst (cs ++ [u]))) st g sl ps hs tk rl bs us rs ∧ GS K τ τ' H (upd H9 cl (.lst (cs ++ [u]))) ∧ At τ' (upd H9 cl (.lst (cs ++ [u]))) cl (.lst cs') (9, 0, 0) ∧ DTs K (upd H9 cl (.lst (cs ++ [u]))) cs' (xs.map In.D) ∧ xs.length = 1 + (i + 1) ∧ (∀ (k : Nat) (y : In), xs[k]? = some y → y.ok (r.getD 3 0) z k) ∧ [some (.ref st), some (.ref sl), some (.int n), some (.ref (ps n)), some (.int wd), some (.int z), some (.ref tk), some (.int ((1 + i : Nat) : Int)), some (.ref rl), some (.bl bare), some (.ref cl), none, none, none] = [some (.ref st), some (.ref sl), some (.int n), some (.ref (ps n)), some (.int wd), some (.int z), some (.ref tk), x, some (.ref rl), some (.bl bare), some (.ref cl), none, none, none] := fun {y u τ9 H9} I9 F9 hc9 D9 hu hy => by
          refine ⟨τ9, cs ++ [u], xs ++ [y], _, app hc9 I9, F9.put ncl hc9.1, .set hc9.2, ?_, by simp [lx]; omega, fun k y' hy' => ?_, rfl⟩
          · rw [List.map_append]
            exact (D9.keep (KT.put hc9.1)).app (.cons (hu.keep (KT.put hc9.1)) .nil)
          · by_cases c : k < xs.length
            · rw [List.getElem?_append_left c] at hy'
              exact bx k y' hy'
            · rw [List.getElem?_append_right (by omega)] at hy'
              have ek : k = 1 + i := by
                have := (List.getElem?_eq_some_iff.mp hy').1
                simp at this; omega
              subst ek
              rw [lx, Nat.sub_self] at hy'
              obtain rfl := (Option.some.inj hy').symm
              exact hy
        refine ⟨_, rfl, _, rfl, _, _, _, _, rfl, rfl, SqL.of I.tk.1, atI_nat (bl_at (by omega)), _, rfl, ite3 (fun _ => ?_) (fun _ => ?_)⟩
        · refine ⟨_, rfl, .inl ⟨rfl, _, SqL.of hc.1⟩, (by show 1 ≤ sizeLine; decide), fun t nt => ?_⟩
          have hc9 := hc.new nt (u := .tup [V.str "tick"]) (y := (7, 0, 0))
          refine ⟨cl, _, _, rfl, rfl, hc9.1, sz (by omega), ?_⟩
          exact fin (y := .ti) (I.gs (I.s.new nt) (GS.refl.new nt)) (F.new nt) hc9 (D.keep (KT.new nt)) (.tup (SqT.of upd_same) (.cons (.str _) .nil)) (nx_mk (r := r.getD 3 0) (x := .ti) (fun _ => rfl) (fun _ z => nomatch z) (fun _ z => nomatch z) (Nat.le_of_ble_eq_true rfl) (Nat.le_of_ble_eq_true rfl) _ _ nxt)
        refine ⟨_, rfl, _, rfl, _, _, rfl, rfl, _, rfl, ite3 (fun ew => ?_) (fun ew => ?_)⟩
        · have ew := of_decide_eq_true ew
          refine ⟨_, rfl, .inl ⟨rfl, _, SqL.of hc.1⟩, ?_⟩
          refine ⟨_, rfl, _, _, rfl, rfl, _, rfl, _, _, rfl, rfl, (by show 2 ≤ sizeLine; decide), fun t1 n1 => ⟨(by show 3 ≤ sizeLine; decide), fun t2 n2 => ?_⟩⟩
          refine ⟨_, rfl, (by show 2 ≤ sizeLine; decide), fun t3 n3 => ⟨(by show 2 ≤ sizeLine; decide), fun t4 n4 => ⟨(by show 2 ≤ sizeLine; decide), fun l nl => ?_⟩⟩⟩
          have G1 := (GS.refl (K := K) (τ := τ8) (H := H8)).new n1 (o := .tup [V.str "int", V.int (100 + ((1 + i : Nat) : Int))]) (x := (7, 0, 0))
          have G2 := G1.new n2 (o := .tup [V.str "move", V.int (((1 + i : Nat) : Int) - 1), V.ref t1]) (x := (7, 0, 0))
          have G3 := G2.new n3 (o := .tup [V.str "int", V.int ((1 + i : Nat) : Int)]) (x := (7, 0, 0))
          have G4 := G3.new n4 (o := .tup [V.str "put", V.ref t3]) (x := (7, 0, 0))
          have G5 := G4.new nl (o := .lst [V.ref t2, V.ref t4]) (x := (7, 0, 0))
          have I5 := I.gs ((((I.s.new n1).new n2).new n3).new n4 |>.new nl) G5
          have k1 := (KT.new (K := K) nl (o := .lst [V.ref t2, V.ref t4]) _ _ (KT.new (K := K) n4 (o := .tup [V.str "put", V.ref t3]) _ _ (KT.new (K := K) n3 (o := .tup [V.str "int", V.int ((1 + i : Nat) : Int)]) _ _ (KT.new (K := K) n2 (o := .tup [V.str "move", V.int (((1 + i : Nat) : Int) - 1), V.ref t1]) _ _ (SqT.of (K := K) (upd_same (H := H8) (a := t1) (o := .tup [V.str "int", V.int (100 + ((1 + i : Nat) : Int))])))))))
          have k2 := (KT.new (K := K) nl (o := .lst [V.ref t2, V.ref t4]) _ _ (KT.new (K := K) n4 (o := .tup [V.str "put", V.ref t3]) _ _ (KT.new (K := K) n3 (o := .tup [V.str "int", V.int ((1 + i : Nat) : Int)]) _ _ (SqT.of (K := K) (upd_same (H := upd H8 t1 (.tup [V.str "int", V.int (100 + ((1 + i : Nat) : Int))])) (a := t2) (o := .tup [V.str "move", V.int (((1 + i : Nat) : Int) - 1), V.ref t1]))))))
          have k3 := (KT.new (K := K) nl (o := .lst [V.ref t2, V.ref t4]) _ _ (KT.new (K := K) n4 (o := .tup [V.str "put", V.ref t3]) _ _ (SqT.of (K := K) (upd_same (H := upd (upd H8 t1 (.tup [V.str "int", V.int (100 + ((1 + i : Nat) : Int))])) t2 (.tup [V.str "move", V.int (((1 + i : Nat) : Int) - 1), V.ref t1])) (a := t3) (o := .tup [V.str "int", V.int ((1 + i : Nat) : Int)])))))
          have k4 := (KT.new (K := K) nl (o := .lst [V.ref t2, V.ref t4]) _ _ (SqT.of (K := K) (upd_same (H := upd (upd (upd H8 t1 (.tup [V.str "int", V.int (100 + ((1 + i : Nat) : Int))])) t2 (.tup [V.str "move", V.int (((1 + i : Nat) : Int) - 1), V.ref t1])) t3 (.tup [V.str "int", V.int ((1 + i : Nat) : Int)])) (a := t4) (o := .tup [V.str "put", V.ref t3]))))
          have hc5 := hc.st G5.s (by simp)
          have D5 := D.keep G5.k
          have F5 := F.tr G5
          refine ⟨_, rfl, .inr ⟨_, rfl, _, _, _, _, rfl, rfl, SqL.of upd_same, (?_ : atI _ (if bare = true then (1 : Int) else 0) = some (V.ref (if bare = true then t4 else t2))), cl, _, _, rfl, rfl, hc5.1, sz (by omega), ?_⟩⟩
          · cases bare with
            | true => exact atI_nat (j := 1) rfl
            | false => exact at0
          · cases bare with
            | true => exact fin (y := .pu ("int", ((1 + i : Nat) : Int))) I5 F5 hc5 D5 (.tup k4 (.cons (.str _) (.cons (.tup k3 (.cons (.str _) (.cons (.int _) .nil))) .nil))) (nx_mk (r := r.getD 3 0) (x := .pu ("int", ((1 + i : Nat) : Int))) (fun _ => rfl) (fun y hy => by rw [List.mem_singleton.mp hy]; exact .inl rfl) (fun _ z => nomatch z) (Nat.le_of_ble_eq_true rfl) (Nat.le_of_ble_eq_true rfl) _ _ nxt)
            | false => exact fin (y := .mv (((1 + i : Nat) : Int) - 1) ("int", 100 + ((1 + i : Nat) : Int))) I5 F5 hc5 D5 (.tup k2 (.cons (.str _) (.cons (.int _) (.cons (.tup k1 (.cons (.str _) (.cons (.int _) .nil))) .nil)))) (nx_mk (r := r.getD 3 0) (x := .mv (((1 + i : Nat) : Int) - 1) ("int", 100 + ((1 + i : Nat) : Int))) (fun _ => rfl) (fun y hy => by rw [List.mem_singleton.mp hy]; exact .inl rfl) (fun y hy => by rw [List.mem_singleton.mp hy]; exact ⟨by omega, by omega⟩) (Nat.le_of_ble_eq_true rfl) (Nat.le_of_ble_eq_true rfl) _ _ nxt)
        have ew := of_decide_eq_false ew
        refine ⟨_, rfl, _, rfl, _, _, rfl, rfl, _, rfl, _, _, rfl, rfl, _, _, rfl, rfl, _, rfl, ite3 (fun ev => ?_) (fun ev => ?_)⟩
        · have ev := of_decide_eq_true ev
          refine ⟨_, rfl, .inl ⟨rfl, _, SqL.of hc.1⟩, ?_⟩
          refine ⟨_, rfl, _, rfl, _, _, rfl, rfl, _, _, rfl, rfl, _, rfl, _, _, rfl, rfl, (by show 2 ≤ sizeLine; decide), fun t1 n1 => ⟨(by show 2 ≤ sizeLine; decide), fun t2 n2 => ?_⟩⟩
          have G1 := (GS.refl (K := K) (τ := τ8) (H := H8)).new n1 (o := .tup [V.str "reg", V.int (((1 + i : Nat) : Int) - (z : Int) + 1 + (wd : Int))]) (x := (7, 0, 0))
          have G2 := G1.new n2 (o := .tup [V.str "put", V.ref t1]) (x := (7, 0, 0))
          have hc5 := hc.st G2.s (by simp)
          refine ⟨cl, _, _, rfl, rfl, hc5.1, sz (by omega), ?_⟩
          exact fin (y := .pu ("reg", ((1 + i : Nat) : Int) - (z : Int) + 1 + (wd : Int))) (I.gs ((I.s.new n1).new n2) G2) (F.tr G2) hc5 (D.keep G2.k) (.tup (SqT.of upd_same) (.cons (.str _) (.cons (.tup (KT.new n2 _ _ (SqT.of upd_same)) (.cons (.str _) (.cons (.int _) .nil))) .nil))) (nx_mk (r := r.getD 3 0) (x := .pu ("reg", ((1 + i : Nat) : Int) - (z : Int) + 1 + (wd : Int))) (fun _ => rfl) (fun y hy => by rw [List.mem_singleton.mp hy]; exact .inr ⟨rfl, by show 0 ≤ ((1 + i : Nat) : Int) - (z : Int) + 1 + (wd : Int); omega, by show ((1 + i : Nat) : Int) - (z : Int) + 1 + (wd : Int) < r.getD 3 0; omega⟩) (fun _ z => nomatch z) (Nat.le_of_ble_eq_true rfl) (Nat.le_of_ble_eq_true rfl) _ _ nxt)
        · refine ⟨_, rfl, .inl ⟨rfl, _, SqL.of hc.1⟩, ?_⟩
          refine ⟨_, rfl, _, rfl, _, rfl, _, rfl, _, rfl, _, rfl, τ8, st, g, sl, ps, hs, tk, rl, bs, us, rs, n, 1 + i, r, rfl, I, ok, e, lr, br, by omega, by omega, fun u y τ9 H9 hu hy S9 F9 => ?_⟩
          have hc9 := hc.st F9.s (by simp)
          refine ⟨cl, _, _, rfl, rfl, hc9.1, sz (by omega), ?_⟩
          rw [lb] at hy
          exact fin (I.gs S9 F9) (F.tr F9) hc9 (D.keep F9.k) hu hy
      · rintro σ H8 ⟨τ8, cs, xs, x, I, F, hc, D, lx, bx, rfl⟩
        exact ⟨τ8, cs, xs, x, I, F, hc, D, by omega, bx, rfl⟩
    clear I F hc D cs x7 τ7
    rintro σ H8 ⟨τ8, cs, xs, x7, I, F, hc, D, lx, bx, rfl⟩
    -- last
    refine ⟨fun σ H' => ∃ (τ' : Tg) (u : V) (y : In), InIn K τ' H' st g sl ps hs tk rl bs us rs ∧ GS K τ τ' H H' ∧ At τ' H' cl (.lst cs) (9, 0, 0) ∧ DTs K H' cs (xs.map In.D) ∧ DT K H' u y.D ∧ y.ok (r.getD 3 0) z (z - 1 : Nat) ∧ σ = [some (.ref st), some (.ref sl), some (.int n), some (.ref (ps n)), some (.int wd), some (.int z), some (.ref tk), x7, some (.ref rl), some (.bl bare), some (.ref cl), some u, none, none], ?_, ?_⟩
    · have b1 := o.s
      refine ⟨_, rfl, _, _, _, _, rfl, rfl, SqL.of (I.sh.r n r e).1, atI_nat (at_map (j := 2) (by rw [o.l]; decide)), _, rfl, by omega, by omega, fun L nL => ?_⟩
      have G0 := (GS.refl (K := K) (τ := τ8) (H := H8)).new nL (o := .lst []) (x := (8, 1, 0))
      refine lc_range (lo := 0) (n := (r.getD 2 0).toNat) (fun j H' => ∃ (τ' : Tg) (vs : List V) (os : List Op), InIn K τ' H' st g sl ps hs tk rl bs us rs ∧ GS K τ8 τ' H8 H' ∧ At τ' H' L (.lst vs) (8, 1, 0) ∧ DTs K H' vs (os.map opD) ∧ os.length = j ∧ ∀ y ∈ os, In.OpOk (r.getD 3 0) y) ⟨tgN τ8 L (8, 1, 0), [], [], I.gs (I.s.new nL) G0, G0, At.mk, .nil, rfl, fun _ z => nomatch z⟩ ?_ ?_
      · rintro j H6 hj ⟨τ6, vs, os, I6, F6, L6, D6, l6, b6⟩
        refine ⟨rfl, _, rfl, _, rfl, τ6, st, g, ps n, r, _, rfl, I6.s, I6.sh.r n r e, by simp, g1, g2, g3, fun u2 x2 τ7 H7 hu2 hx2 S7 F7 => ?_⟩
        have I7 := I6.gs S7 F7
        have L7 := L6.st F7.s (by simp)
        have D7 := D6.keep F7.k
        have lus : vs.length = j := by rw [D7.len, List.length_map, l6]
        have P8 := (Stp.refl (τ := τ7) (S := [8]) (H := H7)).put (o := .lst (vs ++ [u2])) (mem1 L7.2 rfl)
        refine ⟨vs, L7.1, sz (by omega), τ7, vs ++ [u2], os ++ [x2], ⟨I7.s.step P8 (by simp), I7.sh.step P8 (by simp), I7.tk.st P8 (by simp), I7.rl.st P8 (by simp), I7.rd.keep (KT.put L7.1)⟩, (F6.tr F7).put nL L7.1, .set L7.2, ?_, by simp [l6], fun y hy => ?_⟩
        · rw [List.map_append]
          exact (D7.keep (KT.put L7.1)).app (.cons (hu2.keep (KT.put L7.1)) .nil)
        · rcases List.mem_append.mp hy with z | z
          · exact b6 y z
          · rw [List.mem_singleton.mp z]; exact hx2
      · rintro H6 ⟨τ6, vs, os, I6, F6, L6, D6, l6, b6⟩
        refine ⟨L, _, rfl, .inl ⟨SqL.of L6.1, fun t nt => ⟨(by show 2 ≤ sizeLine; decide), fun t2 nt2 => ?_⟩⟩⟩
        have G7 := (F6.new nt (o := .tup vs) (x := (7, 0, 0))).new nt2 (o := .tup [V.str "return", V.ref t]) (x := (7, 0, 0))
        have d1 : DT K (upd (upd H6 t (.tup vs)) t2 (.tup [V.str "return", V.ref t])) (.ref t) (.tuple (os.map opD)) := .tup (KT.new nt2 _ _ (SqT.of upd_same)) ((D6.keep (KT.new nt)).keep (KT.new nt2))
        exact ⟨_, _, .re os, I6.gs ((I6.s.new nt).new nt2) ((GS.refl.new nt).new nt2), F.tr G7, hc.st G7.s (by simp), D.keep G7.k, .tup (SqT.of upd_same) (.cons (.str _) (.cons d1 .nil)), ⟨b6, fun _ z => (nomatch z), fun _ z => (nomatch z), by show os.length ≤ 10; omega, Nat.le_of_ble_eq_true rfl⟩, rfl⟩
    clear I F hc D
    rintro σ H9 ⟨τ9, u, y, I, F, hc, D, hu, hy, rfl⟩
    -- ends
    refine ⟨fun σ H' => ∃ (τ' : Tg) (el : Addr) (js : List Int), InIn K τ' H' st g sl ps hs tk rl bs us rs ∧ GS K τ τ' H H' ∧ At τ' H' cl (.lst cs) (9, 0, 0) ∧ DTs K H' cs (xs.map In.D) ∧ DT K H' u y.D ∧ At τ' H' el (.lst (js.map V.int)) (8, 2, 0) ∧ 0 < js.length ∧ js.length ≤ z ∧ (∀ j ∈ js, 0 ≤ j ∧ j < (z : Int)) ∧ σ = [some (.ref st), some (.ref sl), some (.int n), some (.ref (ps n)), some (.int wd), some (.int z), some (.ref tk), x7, some (.ref rl), some (.bl bare), some (.ref cl), some u, none, some (.ref el)], ?_, ?_⟩
    · refine ⟨_, rfl, _, _, rfl, rfl, _, rfl, by omega, by omega, fun L nL => ?_⟩
      have G0 := (GS.refl (K := K) (τ := τ9) (H := H9)).new nL (o := .lst []) (x := (8, 2, 0))
      refine lc_range (lo := 0) (n := ((z : Int) - 1).toNat) (fun j H' => ∃ (js : List Int), StT (tgN τ9 L (8, 2, 0)) H' st g ∧ GS K τ9 (tgN τ9 L (8, 2, 0)) H9 H' ∧ At (tgN τ9 L (8, 2, 0)) H' L (.lst (js.map V.int)) (8, 2, 0) ∧ (0 < j → 0 < js.length) ∧ js.length ≤ j ∧ (∀ j ∈ js, 0 ≤ j ∧ j < (z : Int))) ⟨[], I.s.new nL, G0, At.mk, fun z => absurd z (Nat.lt_irrefl 0), Nat.le_refl _, fun _ z => nomatch z⟩ ?_ ?_
      · rintro j H6 hj ⟨js, S6, F6, L6, j6, k6, b6⟩
        have tk6 := I.tk.st F6.s (by simp)
        have hj : j < z - 1 := by omega
        rw [show (0 : Int) + (j : Int) = (j : Int) from Int.zero_add _]
        refine ⟨rfl, _, rfl, _, rfl, _, _, _, _, rfl, rfl, SqL.of tk6.1, atI_nat (bl_at (by omega)), _, rfl, ite3 (fun eb => ?_) (fun eb => ?_)⟩
        · refine ⟨_, rfl, _, L6.1, sz (by rw [List.length_map]; omega), js ++ [(j : Int)], S6.step ((Stp.refl (S := [8])).put (mem1 L6.2 rfl)) (by simp), F6.put nL L6.1, ?_, fun _ => by simp, by simp; omega, fun q hq => ?_⟩
          · rw [List.map_append]; exact .set L6.2
          · rcases List.mem_append.mp hq with w | w
            · exact b6 q w
            · rw [List.mem_singleton.mp w]; exact ⟨by omega, by omega⟩
        · refine ⟨js, S6, F6, L6, fun _ => ?_, by omega, b6⟩
          by_cases c : j = 0
          · subst c
            rw [getD_of b0] at eb
            exact nomatch eb
          · exact j6 (by omega)
      · rintro H6 ⟨js, S6, F6, L6, j6, k6, b6⟩
        exact ⟨_, L, js, I.gs S6 F6, F.tr F6, hc.st F6.s (by simp), D.keep F6.k, hu.keep F6.k, L6, j6 (by omega), by omega, b6, rfl⟩
    clear I F hc D hu
    rintro σ H10 ⟨τ10, el, js, I, F, hc, D, hu, hel, jl, jz, bj, rfl⟩
    refine ⟨fun σ H' => ∃ (τ' : Tg) (u : V) (y : In), InIn K τ' H' st g sl ps hs tk rl bs us rs ∧ GS K τ τ' H H' ∧ At τ' H' cl (.lst cs) (9, 0, 0) ∧ DTs K H' cs (xs.map In.D) ∧ DT K H' u y.D ∧ y.ok (r.getD 3 0) z (z - 1 : Nat) ∧ σ = [some (.ref st), some (.ref sl), some (.int n), some (.ref (ps n)), some (.int wd), some (.int z), some (.ref tk), x7, some (.ref rl), some (.bl bare), some (.ref cl), some u, none, some (.ref el)], ?_, ?_⟩
    · refine ⟨_, rfl, τ10, st, g, 4, rfl, I.s, by decide, by decide, fun v H11 v0 v1 S11 F11 => ⟨rfl, _, rfl, ite3 (fun _ => ?_) (fun _ => ⟨τ10, u, y, I.gs S11 F11, F.tr F11, hc.st F11.s (by simp), D.keep F11.k, hu.keep F11.k, hy, rfl⟩)⟩⟩
      have el11 := hel.st F11.s (by simp)
      refine ⟨_, rfl, _, rfl, _, rfl, _, _, rfl, .inl (SqL.of el11.1), τ10, st, g, _, rfl, S11, by rw [List.length_map]; omega, by rw [List.length_map]; omega, fun w H12 w0 w1 S12 F12 => ?_⟩
      rw [List.length_map] at w1
      have el12 := el11.st F12.s (by simp)
      obtain ⟨k, rfl⟩ : ∃ k : Nat, w = (k : Int) := ⟨w.toNat, by omega⟩
      obtain ⟨t, ht⟩ : ∃ t, js[k]? = some t := ⟨_, List.getElem?_eq_getElem (by omega)⟩
      have bt := bj t (List.mem_of_getElem? ht)
      refine ⟨_, _, _, _, rfl, rfl, SqL.of el12.1, atI_nat (by rw [List.getElem?_map, ht]; rfl), (by show 2 ≤ sizeLine; decide), fun t1 n1 => ?_⟩
      refine ⟨_, rfl, tgN τ10 t1 (7, 0, 0), st, g, 5, rfl, S12.new n1, by decide, by decide, fun a1 H13 _ _ S13 F13 => ?_⟩
      refine ⟨_, rfl, tgN τ10 t1 (7, 0, 0), st, g, 5, rfl, S13, by decide, by decide, fun a2 H14 _ _ S14 F14 => ⟨(by show 3 ≤ sizeLine; decide), fun t2 n2 => ⟨(by show 2 ≤ sizeLine; decide), fun l nl => ?_⟩⟩⟩
      refine ⟨_, rfl, tgN (tgN (tgN τ10 t1 (7, 0, 0)) t2 (7, 0, 0)) l (7, 0, 0), st, g, 2, rfl, (S14.new n2).new nl, by decide, by decide, fun b H15 b0 b1 S15 F15 => ?_⟩
      have k1 : SqT K H14 t1 [.str "jump", .int t] := F14.k _ _ (F13.k _ _ (SqT.of upd_same))
      have k1 := F15.k _ _ (KT.new (K := K) nl (o := .lst [V.ref t1, V.ref t2]) _ _ (KT.new (K := K) n2 (o := .tup [V.str "raise", V.int a1, V.int a2]) _ _ k1))
      have k2 := F15.k _ _ (KT.new (K := K) nl (o := .lst [V.ref t1, V.ref t2]) _ _ (SqT.of (K := K) (upd_same (H := H14) (a := t2) (o := .tup [V.str "raise", V.int a1, V.int a2]))))
      have hl := F15.s.fr l _ upd_same (by rw [tg_same]; simp)
      have G := ((((F.tr F11).tr F12).new n1 (o := .tup [V.str "jump", V.int t]) (x := (7, 0, 0))).tr F13).tr F14
      have G := ((G.new n2 (o := .tup [V.str "raise", V.int a1, V.int a2]) (x := (7, 0, 0))).new nl (o := .lst [V.ref t1, V.ref t2]) (x := (7, 0, 0))).tr F15
      have g := (((((F11.tr F12).new n1 (o := .tup [V.str "jump", V.int t]) (x := (7, 0, 0))).tr F13).tr F14).new n2 (o := .tup [V.str "raise", V.int a1, V.int a2]) (x := (7, 0, 0))).new nl (o := .lst [V.ref t1, V.ref t2]) (x := (7, 0, 0)) |>.tr F15
      obtain rfl | rfl : b = 0 ∨ b = 1 := by omega
      · exact ⟨_, _, _, _, rfl, rfl, SqL.of hl, at0, _, _, .jm t, I.gs S15 g, G, hc.st g.s (by simp), D.keep g.k, .tup k1 (.cons (.str _) (.cons (.int _) .nil)), ⟨fun _ z => (nomatch z), fun _ z => (nomatch z), fun q hq => by rw [List.mem_singleton.mp hq]; exact bt, Nat.le_of_ble_eq_true rfl, Nat.le_of_ble_eq_true rfl⟩, rfl⟩
      · exact ⟨_, _, _, _, rfl, rfl, SqL.of hl, atI_nat (j := 1) rfl, _, _, .ra a1 a2, I.gs S15 g, G, hc.st g.s (by simp), D.keep g.k, .tup k2 (.cons (.str _) (.cons (.int _) (.cons (.int _) .nil))), ⟨fun _ z => (nomatch z), fun _ z => (nomatch z), fun _ z => (nomatch z), Nat.le_of_ble_eq_true rfl, Nat.le_of_ble_eq_true rfl⟩, rfl⟩
    clear I F hc D hu hel hy y u
    rintro σ H11 ⟨τ11, u, y, I, F, hc, D, hu, hy, rfl⟩
    have lcs : cs.length = z - 1 := by rw [D.len, List.length_map, lx]
    -- the code is whole
    refine ⟨fun σ H' => ∃ (cs : List V), InIn K τ11 H' st g sl ps hs tk rl bs us rs ∧ GS K τ τ11 H H' ∧ At τ11 H' cl (.lst cs) (9, 0, 0) ∧ DTs K H' cs ((xs ++ [y]).map In.D) ∧ ∃ x, σ = [some (.ref st), some (.ref sl), some (.int n), some (.ref (ps n)), some (.int wd), some (.int z), some (.ref tk), x7, some (.ref rl), some (.bl bare), some (.ref cl), some u, none, x], ?_, ?_⟩
    · refine ⟨_, rfl, .inl ⟨rfl, _, SqL.of hc.1⟩, _, rfl, cl, _, _, rfl, rfl, hc.1, sz (by omega), cs ++ [u], app hc I, F.put ncl hc.1, .set hc.2, ?_, _, rfl⟩
      rw [List.map_append]
      exact (D.keep (KT.put hc.1)).app (.cons (hu.keep (KT.put hc.1)) .nil)
    clear I F hc D hu lcs cs
    rintro σ H12 ⟨cs, I, F, hc, D, x13, rfl⟩
    have lz : (xs ++ [y]).length = z := by rw [List.length_append, lx]; show z - 1 + 1 = z; omega
    have hp := I.sh.r n r e
    have rd : ∀ k : Nat, k < 6 → atI (r.map V.int) (k : Int) = some (.int (r.getD k 0)) := fun k hk => atI_nat (at_map (by rw [o.l]; exact hk))
    refine ⟨_, rfl, _, _, _, _, rfl, rfl, SqL.of hp.1, rd 0 (by decide), _, rfl, _, _, _, _, rfl, rfl, SqL.of hp.1, rd 1 (by decide), _, rfl, _, _, _, _, rfl, rfl, SqL.of hp.1, rd 2 (by decide), _, rfl, _, _, _, _, rfl, rfl, SqL.of hp.1, rd 3 (by decide), _, rfl, _, _, _, _, rfl, rfl, SqL.of hp.1, rd 4 (by decide), ?_⟩
    refine ⟨_, rfl, _, _, rfl, .inl ⟨SqL.of hc.1, fun ca nca => ?_⟩⟩
    have rl1 := I.rl.new nca (u := .tup cs) (y := (7, 0, 0))
    refine ⟨_, rfl, _, _, rfl, .inl ⟨SqL.of rl1.1, fun ra nra => ?_⟩⟩
    refine fun x0 dx0 nx0 ndx0 nex0 => ?_
    have c1 := KT.new (K := K) nra (o := .tup us) _ _ (SqT.of (K := K) (upd_same (H := H12) (a := ca) (o := .tup cs)))
    have c2 := SqT.of (K := K) (upd_same (H := upd H12 ca (.tup cs)) (a := ra) (o := .tup us))
    have d1 := (D.keep (KT.new nca (o := .tup cs))).keep (KT.new nra (o := .tup us))
    have d2 := (I.rd.keep (KT.new nca (o := .tup cs))).keep (KT.new nra (o := .tup us))
    have G := ((F.new nca (o := .tup cs) (x := (7, 0, 0))).new nra (o := .tup us) (x := (7, 0, 0))).new ndx0 (o := .own x0) (x := (7, 0, 0))
    have nx1 : upd (upd (upd H12 ca (.tup cs)) ra (.tup us)) dx0 (.own x0) x0 = none := by rw [upd_ne nex0.symm]; exact nx0
    have G2 := G.new nx1 (o := .ins a.C_Unit dx0 []) (x := (2, 0, 0))
    have S2 := (((I.s.new nca (o := .tup cs) (x := (7, 0, 0))).new nra (o := .tup us) (x := (7, 0, 0))).new ndx0 (o := .own x0) (x := (7, 0, 0))).new nx1 (o := .ins a.C_Unit dx0 []) (x := (2, 0, 0))
    have hx : At (tgN (tgN (tgN (tgN τ11 ca (7, 0, 0)) ra (7, 0, 0)) dx0 (7, 0, 0)) x0 (2, 0, 0)) (upd (upd (upd (upd H12 ca (.tup cs)) ra (.tup us)) dx0 (.own x0)) x0 (.ins a.C_Unit dx0 [])) x0 _ _ := At.mk
    refine ⟨x0, dx0, _, _, _, _, _, _, _, rfl, upd_same, rfl, ?_⟩
    have P := (Stp.refl (S := [2]) (τ := tgN (tgN (tgN (tgN τ11 ca (7, 0, 0)) ra (7, 0, 0)) dx0 (7, 0, 0)) x0 (2, 0, 0)) (H := upd (upd (upd (upd H12 ca (.tup cs)) ra (.tup us)) dx0 (.own x0)) x0 (.ins a.C_Unit dx0 []))).put (o := .ins a.C_Unit dx0 (unF (.int (r.getD 0 0)) (.int (r.getD 1 0)) (.int (r.getD 2 0)) (.int (r.getD 3 0)) (.int (r.getD 4 0)) (.ref ca) (.ref ra))) (mem1 hx.2 rfl)
    have kP := KT.putI (K := K) (o := .ins a.C_Unit dx0 (unF (.int (r.getD 0 0)) (.int (r.getD 1 0)) (.int (r.getD 2 0)) (.int (r.getD 3 0)) (.int (r.getD 4 0)) (.ref ca) (.ref ra))) hx.1
    have kk : KT K _ _ := ((KT.new (K := K) ndx0 (o := .own x0)).tr (KT.new nx1 (o := .ins a.C_Unit dx0 []))).tr kP
    refine q x0 (xs ++ [y]) rs _ _ ⟨⟨dx0, _, _, _, _, ca, ra, cs, us, .set hx.2, kk _ _ c1, d1.keep kk, kk _ _ c2, d2.keep kk⟩, ⟨by omega, by omega, gg.1, gg.2, fun k w hw => ?_, by rw [lz, ← lb]; exact br, lr⟩, ⟨_, dx0, _, _, _, _, ca, ra, .set hx.2, o.a.1, o.a.2⟩⟩ (S2.step P (by simp)) (G2.putI (G.free nx1) hx.1)
    rw [lz]
    by_cases c : k < xs.length
    · rw [List.getElem?_append_left c] at hw
      exact bx k w hw
    · have hk := (List.getElem?_eq_some_iff.mp hw).1
      rw [lz] at hk
      obtain rfl : k = z - 1 := by omega
      rw [List.getElem?_append_right (by omega), lx, Nat.sub_self] at hw
      obtain rfl := (Option.some.inj hw).symm
      exact hy
end

def spShapesT (K : PySem.W.Frag) : Sp := fun vs H Q _ => ∃ (τ : Tg) (st g : Addr), vs = [.ref st] ∧ StT τ H st g ∧ ∀ (sl : Addr) (ps : Nat → Addr) (hs : List (List Int)) (τ' : Tg) (H' : Hp), ShT τ' H' sl ps hs → ShsOk hs → StT τ' H' st g → GS K τ τ' H H' → Q (.ref sl) H'
section
variable {P : Program} {w : World} {K : PySem.W.Frag} {mg : Str → Option Value} {base : Heap} {a : Ad}
theorem ok_law_shapes (T : Txt K mg a) : FnOk P w K mg base CX0 2 a.f_law_shapes a.d_law_shapes ["state"] (spShapesT K) := by
  have G_law_take : FnOk P w K mg base CX0 1 _ _ _ _ := ok_takeT T
  refine T.F__law_shapes.ok sc_law_shapes (fun vs H Q E h => ?_) (fun cdv A outer s H vs Q E hr h => ?_)
  · obtain ⟨_, _, _, rfl, _⟩ := h; rfl
  · obtain ⟨τ, st, g, rfl, S, q⟩ := h
    refine ⟨_, (C8.pss_cut (ps_set (i := 1) sc_law_shapes.nd rfl (Or.inl rfl) (pe_lst pa_nil))
      (C8.pss_cut (ps_set (i := 2) sc_law_shapes.nd rfl (Or.inl rfl) (pe_op op_mul pe_int (pe_callTy call_int1 (by rfl) T.b_int (by decide +kernel) (pa_cons (pe_cmpR op_eq (pe_call G_law_take (hr.mono (by decide)) rfl T.g__law_take T.k__law_take T.bd__law_take .nil pass0 (pa_cons (pv 0) (pa_cons pe_int pa_nil))) pe_int (nomark _)) pa_nil))))
      (C8.pss_cut (ps_for PassesOwn.never rfl (pi_range1 rfl T.b_range (pa_cons (pe_op op_add pe_int (pe_call G_law_take (hr.mono (by decide)) rfl T.g__law_take T.k__law_take T.bd__law_take .nil pass0 (pa_cons (pv 0) (pa_cons pe_int pa_nil)))) pa_nil)) (pg_name (i := 3) sc_law_shapes.nd rfl (Or.inl rfl)) (C8.pss_cut (ps_set (i := 4) sc_law_shapes.nd rfl (Or.inl rfl) (pe_un un_neg pe_int))
      (C8.pss_cut (ps_set (i := 5) sc_law_shapes.nd rfl (Or.inl rfl) pe_int)
      (C8.pss_cut (ps_set (i := 6) sc_law_shapes.nd rfl (Or.inl rfl) pe_int)
      (C8.pss_cut (ps_set (i := 7) sc_law_shapes.nd rfl (Or.inl rfl) pe_int)
      (C8.pss_cut (ps_if (pt_cmpR op_gt (pv 3) pe_int (nomark _)) (C8.pss_cut (ps_set (i := 4) sc_law_shapes.nd rfl (Or.inl rfl) (pe_call G_law_take (hr.mono (by decide)) rfl T.g__law_take T.k__law_take T.bd__law_take .nil pass0 (pa_cons (pv 0) (pa_cons (pv 3) pa_nil))))
      (C8.pss_cut (ps_set (i := 5) sc_law_shapes.nd rfl (Or.inl rfl) (pe_op op_add (pe_ix ix_list (pe_ix ix_list (pv 1) (pv 4) (fun _ _ => rfl)) pe_int (fun _ _ => rfl)) pe_int))
      (C8.pss_cut (ps_set (i := 6) sc_law_shapes.nd rfl (Or.inl rfl) (pe_call G_law_take (hr.mono (by decide)) rfl T.g__law_take T.k__law_take T.bd__law_take .nil pass0 (pa_cons (pv 0) (pa_cons (pe_op op_add pe_int (pv 2)) pa_nil))))
      (pss_one (ps_set (i := 7) sc_law_shapes.nd rfl (Or.inl rfl) (pe_call G_law_take (hr.mono (by decide)) rfl T.g__law_take T.k__law_take T.bd__law_take .nil pass0 (pa_cons (pv 0) (pa_cons (pe_op op_add (pe_op op_add pe_int (pv 2)) (pe_op op_fdivW (pv 2) pe_int)) pa_nil)))))))) pss_nil)
      (C8.pss_cut (ps_set (i := 8) sc_law_shapes.nd rfl (Or.inl rfl) (pe_op op_add (pe_op op_add (pe_op op_add pe_int (pv 2)) (pe_op op_fdivW (pv 2) pe_int)) (pe_call G_law_take (hr.mono (by decide)) rfl T.g__law_take T.k__law_take T.bd__law_take .nil pass0 (pa_cons (pv 0) (pa_cons pe_int pa_nil)))))
      (C8.pss_cut (ps_if (pt_cmpR op_eq (pe_call G_law_take (hr.mono (by decide)) rfl T.g__law_take T.k__law_take T.bd__law_take .nil pass0 (pa_cons (pv 0) (pa_cons pe_int pa_nil))) pe_int (nomark _)) (pss_one (ps_set (i := 8) sc_law_shapes.nd rfl (Or.inl rfl) (pe_op op_add pe_int (pe_call G_law_take (hr.mono (by decide)) rfl T.g__law_take T.k__law_take T.bd__law_take .nil pass0 (pa_cons (pv 0) (pa_cons pe_int pa_nil)))))) pss_nil)
      (pss_one (ps_expr (pe_bm PySem.F.plainAttrs_list PySem.F.slot_list_append PySem.F.type_list_append mt_append (pv 1) (pa_cons (pe_lst (pa_cons (pv 4) (pa_cons (pv 6) (pa_cons (pv 7) (pa_cons (pv 8) (pa_cons (pe_call G_law_take (hr.mono (by decide)) rfl T.g__law_take T.k__law_take T.bd__law_take .nil pass0 (pa_cons (pv 0) (pa_cons pe_int pa_nil))) (pa_cons (pv 5) pa_nil))))))) pa_nil))))))))))))
      (pss_one (ps_ret (pv 1)))))), ?_⟩
    refine ⟨fun σ H' => ∃ (τ' : Tg) (sl : Addr), H sl = none ∧ StT τ' H' st g ∧ GS K τ τ' H H' ∧ At τ' H' sl (.lst []) (3, 0, 0) ∧ σ = [some (.ref st), some (.ref sl), none, none, none, none, none, none, none], ?_, ?_⟩
    · exact ⟨by decide, fun L nL => ⟨_, L, nL, S.new nL, GS.refl.new nL, At.mk, rfl⟩⟩
    clear S
    rintro σ H1 ⟨τ1, sl, nsl, S, F, hL, rfl⟩
    refine ⟨fun σ H' => StT τ1 H' st g ∧ GS K τ τ1 H H' ∧ At τ1 H' sl (.lst []) (3, 0, 0) ∧ ∃ m : Int, (m = 0 ∨ m = 3) ∧ σ = [some (.ref st), some (.ref sl), some (.int m), none, none, none, none, none, none], ?_, ?_⟩
    · refine ⟨_, rfl, τ1, st, g, 4, rfl, S, by decide, by decide, fun v H2 v0 v1 S2 F2 => ⟨rfl, .inr ⟨_, rfl, _, _, rfl, rfl, .inl ⟨by decide, by decide⟩, S2, F.tr F2, hL.st F2.s (by simp), 3 * (if decide (V.int v = V.int 0) = true then 1 else 0), ?_, rfl⟩⟩⟩
      by_cases c : v = 0
      · exact .inr (by simp [c])
      · exact .inl (by simp [c])
    clear S F hL
    rintro σ H2 ⟨S, F, hL, m, hm, rfl⟩
    have m3 : m / 3 = 0 ∨ m / 3 = 1 := by omega
    refine ⟨fun σ H' => ∃ (τ' : Tg) (ps : Nat → Addr) (hs : List (List Int)) (x3 x4 x5 x6 x7 x8 : Option V), StT τ' H' st g ∧ GS K τ τ' H H' ∧ ShT τ' H' sl ps hs ∧ ShsOk hs ∧ σ = [some (.ref st), some (.ref sl), some (.int m), x3, x4, x5, x6, x7, x8], ?_, ?_⟩
    · refine ⟨_, rfl, τ1, st, g, 4, rfl, S, by decide, by decide, fun u H3 u0 u1 S3 F3 => ⟨_, _, rfl, rfl, _, rfl, by omega, by omega, ?_⟩⟩
      have hL3 := hL.st F3.s (by simp)
      refine for_range (lo := 0) (n := (1 + u).toNat) (fun i σ H' => ∃ (τ' : Tg) (ps : Nat → Addr) (hs : List (List Int)) (x3 x4 x5 x6 x7 x8 : Option V), StT τ' H' st g ∧ GS K τ τ' H H' ∧ ShT τ' H' sl ps hs ∧ ShsOk hs ∧ hs.length = i ∧ σ = [some (.ref st), some (.ref sl), some (.int m), x3, x4, x5, x6, x7, x8]) ⟨τ1, fun _ => sl, [], none, none, none, none, none, none, S3, F.tr F3, ⟨hL3, fun k r z => nomatch z⟩, ⟨Nat.zero_le _, fun k r z => nomatch z⟩, rfl, rfl⟩ ?_ ?_
      · clear S F hL S3 F3 hL3
        rintro i σ H4 hi ⟨τ4, ps, hs, x3, x4, x5, x6, x7, x8, S, F, sh, ok, lh, rfl⟩
        have hi : i < 4 := by omega
        rw [show (0 : Int) + (i : Int) = (i : Int) from Int.zero_add _]
        -- the four beginnings
        refine ⟨fun σ H' => H4 = H' ∧ σ = [some (.ref st), some (.ref sl), some (.int m), some (.int i), some (.int (-1)), x5, x6, x7, x8], ⟨_, rfl, rfl, rfl⟩, ?_⟩
        rintro σ H' ⟨rfl, rfl⟩
        refine ⟨fun σ H' => H4 = H' ∧ σ = [some (.ref st), some (.ref sl), some (.int m), some (.int i), some (.int (-1)), some (.int 0), x6, x7, x8], ⟨rfl, rfl⟩, ?_⟩
        rintro σ H' ⟨rfl, rfl⟩
        refine ⟨fun σ H' => H4 = H' ∧ σ = [some (.ref st), some (.ref sl), some (.int m), some (.int i), some (.int (-1)), some (.int 0), some (.int 0), x7, x8], ⟨rfl, rfl⟩, ?_⟩
        rintro σ H' ⟨rfl, rfl⟩
        refine ⟨fun σ H' => H4 = H' ∧ σ = [some (.ref st), some (.ref sl), some (.int m), some (.int i), some (.int (-1)), some (.int 0), some (.int 0), some (.int 0), x8], ⟨rfl, rfl⟩, ?_⟩
        rintro σ H' ⟨rfl, rfl⟩
        refine ⟨fun σ H' => StT τ4 H' st g ∧ GS K τ τ4 H H' ∧ ShT τ4 H' sl ps hs ∧ ∃ pa lv ar re : Int, 0 ≤ ar ∧ ar ≤ 3 + m ∧ 0 ≤ re ∧ re ≤ 10 ∧ 0 ≤ lv ∧ lv ≤ i ∧ (lv = 0 ∨ ∃ j : Nat, pa = (j : Int) ∧ j < i ∧ (hs.getD j []).getD 5 0 + 1 = lv) ∧ σ = [some (.ref st), some (.ref sl), some (.int m), some (.int i), some (.int pa), some (.int lv), some (.int ar), some (.int re), x8], ?_, ?_⟩
        · refine ⟨_, rfl, _, _, rfl, rfl, _, rfl, ite3 (fun e => ?_) (fun e => ⟨S, F, sh, -1, 0, 0, 0, by decide, by omega, by decide, by decide, by decide, by omega, .inl rfl, rfl⟩)⟩
          have e := of_decide_eq_true e
          refine ⟨fun σ H' => StT τ4 H' st g ∧ GS K τ τ4 H H' ∧ ShT τ4 H' sl ps hs ∧ ∃ j : Nat, j < i ∧ σ = [some (.ref st), some (.ref sl), some (.int m), some (.int i), some (.int j), some (.int 0), some (.int 0), some (.int 0), x8], ?_, ?_⟩
          · refine ⟨_, rfl, _, rfl, τ4, st, g, _, rfl, S, by omega, by omega, fun v H5 v0 v1 S5 F5 => ⟨S5, F.tr F5, sh.step F5.s (by simp), v.toNat, by omega, ?_⟩⟩
            rw [show ((v.toNat : Nat) : Int) = v by omega]; rfl
          clear S F sh
          rintro σ H5 ⟨S, F, sh, j, hj, rfl⟩
          obtain ⟨r', e'⟩ : ∃ r', hs[j]? = some r' := ⟨_, List.getElem?_eq_getElem (by omega)⟩
          obtain ⟨o', b'⟩ := ok.2 j r' e'
          refine ⟨fun σ H' => H5 = H' ∧ σ = [some (.ref st), some (.ref sl), some (.int m), some (.int i), some (.int j), some (.int (r'.getD 5 0 + 1)), some (.int 0), some (.int 0), x8], ⟨_, rfl, _, rfl, _, _, _, _, rfl, rfl, SqL.of sh.l.1, atI_nat (rng_at (f := fun k => V.ref (ps k)) (by omega)), _, _, _, _, rfl, rfl, SqL.of (sh.r j r' e').1, atI_nat (at_map (j := 5) (by rw [o'.l]; decide)), _, _, rfl, rfl, rfl, rfl⟩, ?_⟩
          rintro σ H' ⟨rfl, rfl⟩
          refine ⟨fun σ H' => StT τ4 H' st g ∧ GS K τ τ4 H H' ∧ ShT τ4 H' sl ps hs ∧ ∃ ar : Int, 0 ≤ ar ∧ ar ≤ 3 + m ∧ σ = [some (.ref st), some (.ref sl), some (.int m), some (.int i), some (.int j), some (.int (r'.getD 5 0 + 1)), some (.int ar), some (.int 0), x8], ?_, ?_⟩
          · exact ⟨_, rfl, _, rfl, _, _, rfl, rfl, τ4, st, g, _, rfl, S, by omega, by omega, fun v H5 v0 v1 S5 F5 => ⟨S5, F.tr F5, sh.step F5.s (by simp), v, v0, by omega, rfl⟩⟩
          clear S F sh
          rintro σ H6 ⟨S, F, sh, ar, a0, a1, rfl⟩
          have hv := o'.v
          exact ⟨_, rfl, _, rfl, _, _, rfl, rfl, _, rfl, _, _, rfl, rfl, ⟨by decide, by decide +kernel⟩, _, _, rfl, rfl, τ4, st, g, _, rfl, S, by omega, by omega, fun v H5 v0 v1 S5 F5 => ⟨S5, F.tr F5, sh.step F5.s (by simp), j, r'.getD 5 0 + 1, ar, v, a0, a1, v0, by omega, by omega, by omega, .inr ⟨j, rfl, hj, by rw [getD_of e']⟩, rfl⟩⟩
        clear S F sh
        rintro σ H5 ⟨S, F, sh, pa, lv, ar, re, a0, a1, r0, r1, l0, l1, lp, rfl⟩
        refine ⟨fun σ H' => StT τ4 H' st g ∧ GS K τ τ4 H H' ∧ ShT τ4 H' sl ps hs ∧ ∃ rg : Int, 3 ≤ rg ∧ rg ≤ 30 ∧ 3 + m ≤ rg ∧ σ = [some (.ref st), some (.ref sl), some (.int m), some (.int i), some (.int pa), some (.int lv), some (.int ar), some (.int re), some (.int rg)], ?_, ?_⟩
        · exact ⟨_, rfl, _, _, rfl, rfl, _, rfl, _, _, rfl, rfl, ⟨by decide, by decide +kernel⟩, _, _, rfl, rfl, _, rfl, τ4, st, g, 7, rfl, S, by decide, by decide, fun v H5 v0 v1 S5 F5 => ⟨_, _, rfl, rfl, S5, F.tr F5, sh.step F5.s (by simp), 3 + m + m / 3 + v, by omega, by omega, by omega, rfl⟩⟩
        clear S F sh
        rintro σ H6 ⟨S, F, sh, rg, g0, g1, gx, rfl⟩
        refine ⟨fun σ H' => StT τ4 H' st g ∧ GS K τ τ4 H H' ∧ ShT τ4 H' sl ps hs ∧ ∃ rg : Int, 3 ≤ rg ∧ rg ≤ 30 ∧ 3 + m ≤ rg ∧ σ = [some (.ref st), some (.ref sl), some (.int m), some (.int i), some (.int pa), some (.int lv), some (.int ar), some (.int re), some (.int rg)], ?_, ?_⟩
        · refine ⟨_, rfl, τ4, st, g, 5, rfl, S, by decide, by decide, fun v H7 v0 v1 S7 F7 => ⟨rfl, _, rfl, ite3 (fun e => ?_) (fun e => ⟨S7, F.tr F7, sh.step F7.s (by simp), rg, g0, g1, gx, rfl⟩)⟩⟩
          exact ⟨_, rfl, τ4, st, g, 8, rfl, S7, by decide, by decide, fun v H8 v0 v1 S8 F8 => ⟨_, _, rfl, rfl, S8, (F.tr F7).tr F8, (sh.step F7.s (by simp)).step F8.s (by simp), 15 + v, by omega, by omega, by omega, rfl⟩⟩
        clear S F sh g0 g1 gx rg
        rintro σ H7 ⟨S, F, sh, rg, g0, g1, gx, rfl⟩
        refine ⟨_, rfl, .inl ⟨rfl, _, SqL.of sh.l.1⟩, ?_⟩
        refine ⟨_, rfl, _, rfl, _, rfl, _, rfl, _, rfl, τ4, st, g, 5, rfl, S, by decide, by decide, fun c H8 c0 c1 S8 F8 => ⟨_, rfl, (by show 6 ≤ sizeLine; decide), fun p np => ?_⟩⟩
        have sh8 := sh.step F8.s (by simp)
        have G9 := (F.tr F8).new np (o := .lst [V.int pa, V.int ar, V.int re, V.int rg, V.int c, V.int lv]) (x := (3, 1, i))
        have l9 := sh8.l.new np (u := .lst [V.int pa, V.int ar, V.int re, V.int rg, V.int c, V.int lv]) (y := (3, 1, i))
        have p9 : At (tgN τ4 p (3, 1, i)) (upd H8 p (.lst [V.int pa, V.int ar, V.int re, V.int rg, V.int c, V.int lv])) p _ _ := At.mk
        refine ⟨sl, _, _, rfl, rfl, l9.1, sz (by rw [rng_len]; omega), tgN τ4 p (3, 1, i), upA ps i p, hs ++ [[pa, ar, re, rg, c, lv]], _, _, _, _, _, _, (S8.new np (x := (3, 1, i))).step ((Stp.refl (S := [3])).put (mem1 l9.2 rfl)) (by simp), G9.put nsl l9.1, ⟨?_, fun k r' e' => ?_⟩, ⟨by simp; omega, fun k r' e' => ?_⟩, by simp [lh], rfl⟩
        · rw [show (hs ++ [[pa, ar, re, rg, c, lv]]).length = i + 1 by simp [lh], lh, rng_app]
          exact .set l9.2
        · by_cases ck : k < i
          · rw [List.getElem?_append_left (by omega)] at e'
            rw [upA_ne (by omega)]
            exact ((sh8.r k r' e').new np).put l9.2 (by simp)
          · have hk := (List.getElem?_eq_some_iff.mp e').1
            simp [lh] at hk
            obtain rfl : k = i := by omega
            rw [List.getElem?_append_right (by omega), lh, Nat.sub_self] at e'
            obtain rfl := (Option.some.inj e').symm
            rw [upA_same]
            exact p9.put l9.2 (by simp)
        · have gd : ∀ j : Nat, j < i → (hs ++ [[pa, ar, re, rg, c, lv]]).getD j [] = hs.getD j [] := fun j hj => by
            rw [List.getD_eq_getElem?_getD, List.getD_eq_getElem?_getD, List.getElem?_append_left (by omega)]
          by_cases ck : k < i
          · rw [List.getElem?_append_left (by omega)] at e'
            obtain ⟨o, b⟩ := ok.2 k r' e'
            refine ⟨⟨o.l, o.a, o.s, o.g, o.c, o.v, ?_⟩, b⟩
            rcases o.p with z | ⟨j, j1, j2, j3⟩
            · exact .inl z
            · exact .inr ⟨j, j1, j2, by rw [gd j (by omega)]; exact j3⟩
          · have hk := (List.getElem?_eq_some_iff.mp e').1
            simp [lh] at hk
            obtain rfl : k = i := by omega
            rw [List.getElem?_append_right (by omega), lh, Nat.sub_self] at e'
            obtain rfl := (Option.some.inj e').symm
            refine ⟨⟨rfl, ⟨a0, show ar ≤ 6 by omega, show ar ≤ rg by omega⟩, ⟨r0, r1⟩, ⟨g0, g1⟩, ⟨c0, by show c ≤ 4; omega⟩, l0, ?_⟩, l1⟩
            rcases lp with z | ⟨j, j1, j2, j3⟩
            · exact .inl z
            · exact .inr ⟨j, j1, j2, by rw [gd j (by omega)]; exact j3⟩
      · rintro σ H4 ⟨τ4, ps, hs, x3, x4, x5, x6, x7, x8, S, F, sh, ok, lh, rfl⟩
        exact ⟨τ4, ps, hs, x3, x4, x5, x6, x7, x8, S, F, sh, ok, rfl⟩
    clear S F hL
    rintro σ H3 ⟨τ3, ps, hs, x3, x4, x5, x6, x7, x8, S, F, sh, ok, rfl⟩
    exact ⟨_, rfl, q sl ps hs τ3 H3 sh ok S F⟩
end

/-! ### modules -/
def moF (v0 v1 v2 : V) : List (Str × V) := putF "places" v2 (putF "names" v1 (putF "units" v0 []))
theorem mo_n1 : ¬ ("units" : Str) = "places" := by decide +kernel
theorem mo_n2 : ¬ ("units" : Str) = "names" := by decide +kernel
theorem mo_un (v0 v1 v2 : V) : (moF v0 v1 v2).lookup ("units" : Str) = some v0 :=
  ((lookup_putF "places" "units" v2 _).trans (if_neg mo_n1)).trans (((lookup_putF "names" "units" v1 _).trans (if_neg mo_n2)).trans ((lookup_putF "units" "units" v0 _).trans (if_pos rfl)))
def spMoI (C : Addr) : Sp := fun vs H Q _ => ∃ (p dx : Addr) (v0 v1 v2 : V), vs = [.ref p, v0, v1, v2] ∧ H p = some (.ins C dx []) ∧ Q .non (upd H p (.ins C dx (moF v0 v1 v2)))
structure ModT (K : PySem.W.Frag) (CU CM : Addr) (τ : Tg) (H : Hp) (p : Addr) (us : List (Addr × Int × List In × List (List Int))) : Prop where
  o : ∃ dx ua v1 v2, At τ H p (.ins CM dx (moF (.ref ua) v1 v2)) (2, 1, 0) ∧ SqT K H ua (us.map fun u => V.ref u.1)
  u : ∀ u ∈ us, UnT K CU τ H u.1 u.2.1 u.2.2.1 u.2.2.2
  l : us.length ≤ 4
theorem UnT.st {K : PySem.W.Frag} {C : Addr} {τ τ' : Tg} {Z : List Nat} {H H' : Hp} {p : Addr} {g : Int} {xs : List In} {rs : List (List Int)} (h : UnT K C τ H p g xs rs) (s : Stp τ τ' Z H H') (n : 2 ∉ Z) (k : KT K H H') : UnT K C τ' H' p g xs rs := by
  obtain ⟨dx, v0, v1, v2, v4, ca, ra, us, ws, h1, h2, h3, h4, h5⟩ := h.o
  exact ⟨⟨dx, v0, v1, v2, v4, ca, ra, us, ws, h1.st s n, k _ _ h2, h3.keep k, k _ _ h4, h5.keep k⟩, h.k, by
    obtain ⟨ar, dx, v0, v2, v3, v4, ca, ra, h1, h2, h3⟩ := h.a
    exact ⟨ar, dx, v0, v2, v3, v4, ca, ra, h1.st s n, h2, h3⟩⟩
def spModT (K : PySem.W.Frag) (CU CM : Addr) : Sp := fun vs H Q _ => ∃ (τ : Tg) (st g : Addr), vs = [.ref st] ∧ StT τ H st g ∧ ∀ (p : Addr) (us : List (Addr × Int × List In × List (List Int))) (τ' : Tg) (H' : Hp), ModT K CU CM τ' H' p us → StT τ' H' st g → GS K τ τ' H H' → Q (.ref p) H'
section
variable {P : Program} {w : World} {K : PySem.W.Frag} {mg : Str → Option Value} {base : Heap} {a : Ad}
theorem ok_Module___init__ (T : Txt K mg a) : FnOk P w K mg base CX0 1 a.f_Module___init__ a.d_Module___init__ ["self", "units", "names", "places"] (spMoI a.C_Module) := by
  refine T.F_Module___init__.ok sc_Module___init__ (fun vs H Q E h => ?_) (fun cdv A outer s H vs Q E hr h => ?_)
  · obtain ⟨_, _, _, _, _, rfl, _⟩ := h; rfl
  · obtain ⟨p, dx, v0, v1, v2, rfl, hp, q⟩ := h
    refine ⟨_, (pss_cons (ps_fld (pv 0) (pv 1) rfl)
      (pss_cons (ps_fld (pv 0) (pv 2) rfl)
      (pss_one (ps_fld (pv 0) (pv 3) rfl)))), ?_⟩
    refine ⟨_, rfl, _, rfl, p, a.C_Module, dx, _, rfl, hp, T.cl_Module, T.n_Module_units, (by show 0 < 1000; decide), ?_⟩
    refine ⟨_, rfl, _, rfl, p, a.C_Module, dx, _, rfl, upd_same, T.cl_Module, T.n_Module_names, (by show 1 < 1000; decide), ?_⟩
    rw [upd_upd]
    refine ⟨_, rfl, _, rfl, p, a.C_Module, dx, _, rfl, upd_same, T.cl_Module, T.n_Module_places, Nat.lt_of_le_of_lt (pf_lt (pf_lt (Nat.le_refl 0))) (by decide : 2 < 1000), ?_⟩
    rw [upd_upd]
    exact q
theorem ok_law_module (T : Txt K mg a) : FnOk P w K mg base CX0 6 a.f_law_module a.d_law_module ["state"] (spModT K a.C_Unit a.C_Module) := by
  have G_law_shapes : FnOk P w K mg base CX0 2 _ _ _ _ := ok_law_shapes T
  have G_law_unit : FnOk P w K mg base CX0 5 _ _ _ _ := ok_law_unit T
  have G_law_place : FnOk P w K mg base CX0 1 _ _ _ _ := ok_law_place T
  have G_Module___init__ : FnOk P w K mg base CX0 1 _ _ _ _ := ok_Module___init__ T
  refine T.F__law_module.ok sc_law_module (fun vs H Q E h => ?_) (fun cdv A outer s H vs Q E hr h => ?_)
  · obtain ⟨_, _, _, rfl, _⟩ := h; rfl
  · obtain ⟨τ, st, g, rfl, S, q⟩ := h
    refine ⟨_, (C8.pss_cut (ps_set (i := 1) sc_law_module.nd rfl (Or.inr rfl) (pe_call G_law_shapes (hr.mono (by decide)) rfl T.g__law_shapes T.k__law_shapes T.bd__law_shapes .nil pass0 (pa_cons (pv 0) pa_nil)))
      (C8.pss_cut (ps_setLc (i := 2) (own := [("number", 3)]) (g := gName 3) rfl sc_law_module.nd rfl rfl (sw_true rfl rfl rfl (by decide +kernel)) (pi_range1 rfl T.b_range (pa_cons (pe_callB call_len_seq (by rfl) T.b_len (by decide +kernel) (pa_cons (pv 1) pa_nil)) pa_nil)) (blkOk_by (own := [("number", 3)]) (N := ["state", "shapes", "units", "number", "names", "places", "k"]) (sc := defScope s_law_module) (by decide +kernel)) (fun _ _ _ _ _ => pg_name (i := 3) sc_law_module.nd rfl (Or.inl rfl)) (fun _ _ _ _ _ => pts_nil) (fun _ _ _ _ _ => (pe_call G_law_unit (hr.mono (by decide)) rfl T.g__law_unit T.k__law_unit T.bd__law_unit .nil pass0 (pa_cons (pv 0) (pa_cons (pv 1) (pa_cons (pv 3) pa_nil))))))
      (C8.pss_cut (ps_set (i := 4) sc_law_module.nd rfl (Or.inl rfl) (pe_tup (pa_cons pe_str (pa_cons pe_str (pa_cons pe_str (pa_cons pe_str (pa_cons pe_str pa_nil)))))))
      (C8.pss_cut (ps_set (i := 5) sc_law_module.nd rfl (Or.inl rfl) (pe_callTy call_tuple_of (by rfl) T.b_tuple (by decide +kernel) (pa_cons (pe_lc (own := [("k", 6)]) (g := gName 6) rfl sc_law_module.nd (pi_range1 rfl T.b_range (pa_cons pe_int pa_nil)) (blkOk_by (own := [("k", 6)]) (N := ["state", "shapes", "units", "number", "names", "places", "k"]) (sc := defScope s_law_module) (by decide +kernel)) (fun _ _ _ _ _ => pg_name (i := 6) sc_law_module.nd rfl (Or.inl rfl)) (fun _ _ _ _ _ => pts_nil) (fun _ _ _ _ _ => (pe_call G_law_place (hr.mono (by decide)) rfl T.g__law_place T.k__law_place T.bd__law_place .nil pass0 (pa_cons (pv 0) pa_nil)))) pa_nil)))
      (pss_one (ps_ret (pe_make T.mk_Module G_Module___init__ (hr.mono (by decide)) rfl T.g_Module T.bd_Module___init__ .nil pass0 (pa_cons (pe_callTy call_tuple_of (by rfl) T.b_tuple (by decide +kernel) (pa_cons (pv 2) pa_nil)) (pa_cons (pv 4) (pa_cons (pv 5) pa_nil)))))))))), ?_⟩
    refine ⟨fun σ H' => ∃ (τ' : Tg) (sl : Addr) (ps : Nat → Addr) (hs : List (List Int)), StT τ' H' st g ∧ GS K τ τ' H H' ∧ ShT τ' H' sl ps hs ∧ ShsOk hs ∧ σ = [some (.ref st), some (.ref sl), none, none, none, none, none], ?_, ?_⟩
    · exact ⟨_, rfl, τ, st, g, rfl, S, fun sl ps hs τ' H' sh ok S' F' => ⟨τ', sl, ps, hs, S', F', sh, ok, rfl⟩⟩
    clear S
    rintro σ H1 ⟨τ1, sl, ps, hs, S, F, sh, ok, rfl⟩
    refine ⟨fun σ H' => ∃ (τ' : Tg) (L : Addr) (us : List (Addr × Int × List In × List (List Int))) (x3 : Option V), StT τ' H' st g ∧ GS K τ τ' H H' ∧ At τ' H' L (.lst (us.map fun u => V.ref u.1)) (8, 3, 0) ∧ (∀ u ∈ us, UnT K a.C_Unit τ' H' u.1 u.2.1 u.2.2.1 u.2.2.2) ∧ us.length ≤ 4 ∧ σ = [some (.ref st), some (.ref sl), some (.ref L), x3, none, none, none], ?_, ?_⟩
    · have hl := ok.1
      refine ⟨_, rfl, _, _, rfl, .inl (SqL.of sh.l.1), _, rfl, by rw [rng_len]; omega, by rw [rng_len]; omega, fun L nL => ?_⟩
      refine lc_range (lo := 0) (n := (((List.range hs.length).map fun k => V.ref (ps k)).length : Int).toNat) (fun i H' => ∃ (τ' : Tg) (us : List (Addr × Int × List In × List (List Int))), StT τ' H' st g ∧ GS K τ τ' H H' ∧ ShT τ' H' sl ps hs ∧ At τ' H' L (.lst (us.map fun u => V.ref u.1)) (8, 3, 0) ∧ (∀ u ∈ us, UnT K a.C_Unit τ' H' u.1 u.2.1 u.2.2.1 u.2.2.2) ∧ us.length = i) ⟨tgN τ1 L (8, 3, 0), [], S.new nL, F.new nL, sh.step ((Stp.refl (S := [])).new nL (x := (8, 3, 0))) (by simp), At.mk, fun _ z => (nomatch z), rfl⟩ ?_ ?_
      · rintro i H3 hi ⟨τ3, us, S3, F3, sh3, L3, u3, l3⟩
        have hi : i < hs.length := by rw [rng_len] at hi; omega
        obtain ⟨r, e⟩ : ∃ r, hs[i]? = some r := ⟨_, List.getElem?_eq_getElem hi⟩
        rw [show (0 : Int) + (i : Int) = (i : Int) from Int.zero_add _]
        refine ⟨rfl, _, rfl, _, rfl, _, rfl, τ3, st, g, sl, ps, hs, i, r, rfl, S3, sh3, ok, e, fun p xs rs τ4 H4 un S4 F4 => ?_⟩
        have L4 := L3.st F4.s (by simp)
        have P := (Stp.refl (τ := τ4) (S := [8]) (H := H4)).put (o := .lst ((us.map fun u => V.ref u.1) ++ [V.ref p])) (mem1 L4.2 rfl)
        have kp := KT.put (K := K) (o := .lst ((us.map fun u => V.ref u.1) ++ [V.ref p])) L4.1
        refine ⟨_, L4.1, sz (by rw [List.length_map]; omega), τ4, us ++ [(p, r.getD 3 0, xs, rs)], S4.step P (by simp), (F3.tr F4).put (F.free nL) L4.1, (sh3.step F4.s (by simp)).step P (by simp), ?_, fun u hu => ?_, by simp [l3]⟩
        · rw [List.map_append]; exact .set L4.2
        · rcases List.mem_append.mp hu with z | z
          · exact ((u3 u z).gs F4).st P (by simp) kp
          · rw [List.mem_singleton.mp z]
            exact un.st P (by simp) kp
      · rintro H3 ⟨τ3, us, S3, F3, sh3, L3, u3, l3⟩
        rw [rng_len] at l3
        exact ⟨τ3, L, us, none, S3, F3, L3, u3, by omega, rfl⟩
    clear S F sh
    rintro σ H2 ⟨τ2, L, us, x3, S, F, hL, hu, lu, rfl⟩
    refine ⟨fun σ H' => ∃ (τ' : Tg) (t : Addr), StT τ' H' st g ∧ GS K τ τ' H H' ∧ At τ' H' L (.lst (us.map fun u => V.ref u.1)) (8, 3, 0) ∧ (∀ u ∈ us, UnT K a.C_Unit τ' H' u.1 u.2.1 u.2.2.1 u.2.2.2) ∧ σ = [some (.ref st), some (.ref sl), some (.ref L), x3, some (.ref t), none, none], ?_, ?_⟩
    · refine ⟨(by show 5 ≤ sizeLine; decide), fun t nt => ?_⟩
      exact ⟨_, t, S.new nt (x := (7, 0, 0)), F.new nt, hL.new nt, fun u z => (hu u z).gs (GS.refl.new nt), rfl⟩
    clear S F hL hu
    rintro σ H3 ⟨τ3, t, S, F, hL, hu, rfl⟩
    refine ⟨fun σ H' => ∃ (τ' : Tg) (v : V) (x6 : Option V), StT τ' H' st g ∧ GS K τ τ' H H' ∧ At τ' H' L (.lst (us.map fun u => V.ref u.1)) (8, 3, 0) ∧ (∀ u ∈ us, UnT K a.C_Unit τ' H' u.1 u.2.1 u.2.2.1 u.2.2.2) ∧ σ = [some (.ref st), some (.ref sl), some (.ref L), x3, some (.ref t), some v, x6], ?_, ?_⟩
    · refine ⟨_, rfl, by decide, by decide, fun D nD => ?_⟩
      refine lc_range (lo := 0) (n := (5 : Int).toNat) (fun i H' => ∃ (τ' : Tg) (vs : List V), StT τ' H' st g ∧ GS K τ3 τ' H3 H' ∧ At τ' H' D (.lst vs) (8, 4, 0) ∧ vs.length = i) ⟨tgN τ3 D (8, 4, 0), [], S.new nD, GS.refl.new nD, At.mk, rfl⟩ ?_ ?_
      · rintro i H4 hi ⟨τ4, vs, S4, F4, D4, l4⟩
        have hi : i < 5 := hi
        refine ⟨rfl, _, rfl, τ4, st, g, rfl, S4, fun u x y τ5 H5 du S5 F5 => ?_⟩
        have D5 := D4.st F5.s (by simp)
        exact ⟨vs, D5.1, sz (by omega), τ5, vs ++ [u], S5.step ((Stp.refl (S := [8])).put (mem1 D5.2 rfl)) (by simp), (F4.tr F5).put nD D5.1, .set D5.2, by simp [l4]⟩
      · rintro H4 ⟨τ4, vs, S4, F4, D4, l4⟩
        refine ⟨D, _, rfl, .inl ⟨SqL.of D4.1, fun t2 nt => ?_⟩⟩
        have G := F4.new nt (o := .tup vs) (x := (7, 0, 0))
        exact ⟨_, _, _, S4.new nt, F.tr G, hL.st G.s (by simp), fun u z => (hu u z).gs G, rfl⟩
    clear S F hL hu
    rintro σ H4 ⟨τ4, v, x6, S, F, hL, hu, rfl⟩
    refine ⟨_, rfl, _, _, rfl, .inl ⟨SqL.of hL.1, fun ut nut => ?_⟩⟩
    refine ⟨_, rfl, _, rfl, fun x0 dx0 nx0 ndx0 nex0 => ?_⟩
    have G := (F.new nut (o := .tup (us.map fun u => V.ref u.1)) (x := (7, 0, 0))).new ndx0 (o := .own x0) (x := (7, 0, 0))
    have nx1 : upd (upd H4 ut (.tup (us.map fun u => V.ref u.1))) dx0 (.own x0) x0 = none := by rw [upd_ne nex0.symm]; exact nx0
    have G2 := G.new nx1 (o := .ins a.C_Module dx0 []) (x := (2, 1, 0))
    have S2 := ((S.new nut (o := .tup (us.map fun u => V.ref u.1)) (x := (7, 0, 0))).new ndx0 (o := .own x0) (x := (7, 0, 0))).new nx1 (o := .ins a.C_Module dx0 []) (x := (2, 1, 0))
    have g2 := (((GS.refl (K := K) (τ := τ4) (H := H4)).new nut (o := .tup (us.map fun u => V.ref u.1)) (x := (7, 0, 0))).new ndx0 (o := .own x0) (x := (7, 0, 0))).new nx1 (o := .ins a.C_Module dx0 []) (x := (2, 1, 0))
    have hx : At (tgN (tgN (tgN τ4 ut (7, 0, 0)) dx0 (7, 0, 0)) x0 (2, 1, 0)) (upd (upd (upd H4 ut (.tup (us.map fun u => V.ref u.1))) dx0 (.own x0)) x0 (.ins a.C_Module dx0 [])) x0 _ _ := At.mk
    refine ⟨x0, dx0, _, _, _, rfl, upd_same, rfl, ?_⟩
    have kP := KT.putI (K := K) (o := .ins a.C_Module dx0 (moF (.ref ut) (.ref t) v)) hx.1
    have c1 := SqT.of (K := K) (upd_same (H := H4) (a := ut) (o := .tup (us.map fun u => V.ref u.1)))
    have kk := ((KT.new (K := K) ndx0 (o := .own x0)).tr (KT.new nx1 (o := .ins a.C_Module dx0 []))).tr kP
    refine q x0 us _ _ ⟨⟨dx0, ut, _, _, .set hx.2, kk _ _ c1⟩, fun u z => ?_, lu⟩ (S2.step ((Stp.refl (S := [2])).put (mem1 hx.2 rfl)) (by simp)) (G2.putI (G.free nx1) hx.1)
    have g1 := ((GS.refl (K := K) (τ := τ4) (H := H4)).new nut (o := .tup (us.map fun u => V.ref u.1)) (x := (7, 0, 0))).new ndx0 (o := .own x0) (x := (7, 0, 0))
    have g3 := g2.putI (g1.free nx1) hx.1 (o := .ins a.C_Module dx0 (moF (.ref ut) (.ref t) v))
    exact (hu u z).gs g3
end

/-! ### sets of registers as bits -/
theorem tb_sub (a b k : Nat) : (a - (a &&& b)).testBit k = (a.testBit k && !b.testBit k) := by
  have h : a - (a &&& b) = a ^^^ (a &&& b) := by
    have l : ∀ n a b : Nat, a < 2 ^ n → a - (a &&& b) = a ^^^ (a &&& b) := fun n => by
      induction n with
      | zero => intro a b h; simp at h; subst h; simp
      | succ n ih =>
        intro a b h
        have e := ih (a / 2) (b / 2) (by rw [Nat.pow_succ] at h; omega)
        have d1 : (a &&& b) / 2 = a / 2 &&& b / 2 := Nat.and_div_two
        have d2 : (a ^^^ (a &&& b)) / 2 = a / 2 ^^^ (a &&& b) / 2 := Nat.xor_div_two
        have m1 : (a &&& b) % 2 = if a % 2 = 1 ∧ b % 2 = 1 then 1 else 0 := by
          rcases Nat.mod_two_eq_zero_or_one (a &&& b) with z | z
          · rw [z, if_neg (fun c => by have := (Nat.and_mod_two_eq_one).mpr c; omega)]
          · rw [z, if_pos ((Nat.and_mod_two_eq_one).mp z)]
        have m2 : (a ^^^ (a &&& b)) % 2 = (a + (a &&& b)) % 2 := by
          rcases Nat.mod_two_eq_zero_or_one (a ^^^ (a &&& b)) with z | z
          · have := fun c => (Nat.xor_mod_two_eq_one (a := a) (b := a &&& b)).mpr c; omega
          · have := (Nat.xor_mod_two_eq_one (a := a) (b := a &&& b)).mp z; omega
        have le : a &&& b ≤ a := Nat.and_le_left
        rw [← d1] at e
        split at m1 <;> omega
    exact l a a b Nat.lt_two_pow_self
  rw [h, Nat.testBit_xor, Nat.testBit_and]
  cases a.testBit k <;> cases b.testBit k <;> rfl
theorem or_cast (a b : Nat) : Builtin.bitOr (a : Int) (b : Int) = ((a ||| b : Nat) : Int) := by
  rw [bitOr_nn (Int.natCast_nonneg a) (Int.natCast_nonneg b), Int.toNat_natCast, Int.toNat_natCast]
theorem andnot_cast (a b : Nat) : Builtin.bitAnd (a : Int) (Builtin.bitNot (b : Int)) = ((a - (a &&& b) : Nat) : Int) := by
  unfold Builtin.bitAnd
  have h1 : decide (0 ≤ (a : Int)) = true := decide_eq_true (Int.natCast_nonneg a)
  have h2 : decide (0 ≤ Builtin.bitNot (b : Int)) = false := decide_eq_false (by show ¬ (0 : Int) ≤ -(b : Int) - 1; omega)
  have h3 : (Builtin.bitNot (Builtin.bitNot (b : Int))).toNat = b := by
    show (-(-(b : Int) - 1) - 1).toNat = b
    omega
  have le : a &&& b ≤ a := Nat.and_le_left
  rw [h1, h2, h3]
  show (a : Int) - (((a : Int).toNat &&& b : Nat) : Int) = _
  rw [Int.toNat_natCast]
  omega
def bV (ms : List Nat) : List V := ms.map fun (m : Nat) => V.int (m : Int)
/-- the registers of a set, ascending -/
def nuOf (m : Nat) : List Nat := (List.range (Builtin.Int.intBits (m : Int))).filter fun k => m.testBit k
theorem tb_lt {m k : Nat} (h : m.testBit k = true) : k < Builtin.Int.intBits (m : Int) := by
  have h1 : 2 ^ k ≤ m := Nat.ge_two_pow_of_testBit h
  have h0 : m ≠ 0 := fun e => by rw [e] at h; simp at h
  unfold Builtin.Int.intBits
  rw [if_neg (by simp; omega), Int.natAbs_natCast]
  have := (Nat.le_log2 h0).mpr h1
  omega
theorem mem_nu {m k : Nat} : k ∈ nuOf m ↔ m.testBit k = true := by
  unfold nuOf
  rw [List.mem_filter, List.mem_range]
  exact ⟨fun h => h.2, fun h => ⟨tb_lt h, h⟩⟩
theorem nu_sorted (m : Nat) : (nuOf m).Pairwise (· < ·) := (List.pairwise_lt_range).filter _
theorem bits_le {m g : Nat} (h : ∀ k, m.testBit k = true → k < g) : Builtin.Int.intBits (m : Int) ≤ g := by
  by_cases h0 : m = 0
  · subst h0; show (0 : Nat) ≤ g; omega
  unfold Builtin.Int.intBits
  rw [if_neg (by simp; omega), Int.natAbs_natCast]
  have : m.testBit m.log2 = true := Nat.testBit_log2 h0
  have := h _ this
  omega
/-! ### liveness: the rule, its least solution, the work list -/
namespace In
def rdI (x : In) : List Int := (x.ops.filter fun g => decide (g.1 = ("reg" : Str))).map Prod.snd
end In
abbrev Bf := Int → Nat → Bool
def bF (ms : List Nat) : Bf := fun t k => (ms.getD t.toNat 0).testBit k
def stB (x : In) (i : Int) (r : Option (List Int)) (f : Bf) (k : Nat) : Bool :=
  (((x.fol i).any fun t => f t k) && !decide ((k : Int) ∈ x.wrt)) ||
  (x.can && match r with
    | none => false
    | some r => f (r.getD 2 0) k && !decide ((k : Int) ∈ [r.getD 3 0, r.getD 4 0])) ||
  decide ((k : Int) ∈ x.rdI)
def enI (x : In) (r : Option (List Int)) : List Int := if x.can = true then (match r with
  | none => []
  | some r => [r.getD 2 0]) else []
def wyI (x : In) (i : Int) (r : Option (List Int)) : List Int := x.fol i ++ enI x r
theorem stB_true {x : In} {i : Int} {r : Option (List Int)} {f : Bf} {k : Nat} : stB x i r f k = true ↔ ((∃ t ∈ x.fol i, f t k = true) ∧ (k : Int) ∉ x.wrt) ∨ (∃ q, x.can = true ∧ r = some q ∧ f (q.getD 2 0) k = true ∧ (k : Int) ≠ q.getD 3 0 ∧ (k : Int) ≠ q.getD 4 0) ∨ (k : Int) ∈ x.rdI := by
  unfold stB
  rw [Bool.or_eq_true, Bool.or_eq_true, Bool.and_eq_true, List.any_eq_true, Bool.and_eq_true]
  cases r with
  | none => simp
  | some q =>
    simp [or_assoc]
theorem stB_mono {x : In} {i : Int} {r : Option (List Int)} {f g : Bf} {k : Nat} (h : ∀ t ∈ wyI x i r, f t k = true → g t k = true) (e : stB x i r f k = true) : stB x i r g k = true := by
  rw [stB_true] at e ⊢
  rcases e with ⟨⟨t, ht, ft⟩, hw⟩ | ⟨q, hc, rfl, fq, h3, h4⟩ | e
  · exact .inl ⟨⟨t, ht, h t (List.mem_append.mpr (.inl ht)) ft⟩, hw⟩
  · refine .inr (.inl ⟨q, hc, rfl, h _ (List.mem_append.mpr (.inr ?_)) fq, h3, h4⟩)
    unfold enI
    rw [if_pos hc]
    exact List.mem_singleton.mpr rfl
  · exact .inr (.inr e)
theorem stB_congr {x : In} {i : Int} {r : Option (List Int)} {f g : Bf} {k : Nat} (h : ∀ t ∈ wyI x i r, f t k = g t k) : stB x i r f k = stB x i r g k := by
  rw [Bool.eq_iff_iff]
  exact ⟨stB_mono fun t m e => by rw [← h t m]; exact e, stB_mono fun t m e => by rw [h t m]; exact e⟩
def reI (rs : List (List Int)) (i : Nat) : Option (List Int) := rs.find? (inR (i : Int))
def Clo (xs : List In) (rs : List (List Int)) (f : Bf) : Prop := ∀ (i : Nat) (x : In), xs[i]? = some x → ∀ k, stB x i (reI rs i) f k = true → f (i : Int) k = true
structure Liv (xs : List In) (rs : List (List Int)) (ms : List Nat) : Prop where
  len : ms.length = xs.length
  fx : ∀ (i : Nat) (x : In), xs[i]? = some x → ∀ k, (ms.getD i 0).testBit k = stB x i (reI rs i) (bF ms) k
  le : ∀ f, Clo xs rs f → ∀ i k, i < xs.length → (ms.getD i 0).testBit k = true → f (i : Int) k = true
theorem bF_nat (ms : List Nat) (i k : Nat) : bF ms (i : Int) k = (ms.getD i 0).testBit k := by
  unfold bF
  rw [Int.toNat_natCast]
theorem Liv.clo {xs : List In} {rs : List (List Int)} {ms : List Nat} (h : Liv xs rs ms) : Clo xs rs (bF ms) := fun i x e k c => by rw [bF_nat, h.fx i x e k]; exact c
theorem Liv.uniq {xs : List In} {rs : List (List Int)} {ms ms' : List Nat} (h : Liv xs rs ms) (h' : Liv xs rs ms') : ms = ms' := by
  refine List.ext_getElem (by rw [h.len, h'.len]) fun i h1 h2 => Nat.eq_of_testBit_eq fun k => ?_
  have a1 := h.le _ h'.clo i k (by rw [← h.len]; exact h1)
  have a2 := h'.le _ h.clo i k (by rw [← h'.len]; exact h2)
  rw [bF_nat] at a1 a2
  have e1 : ms.getD i 0 = ms[i] := by simp [List.getD, h1]
  have e2 : ms'.getD i 0 = ms'[i] := by simp [List.getD, h2]
  rw [e1, e2] at a1 a2
  rw [Bool.eq_iff_iff]
  exact ⟨a1, a2⟩
/-- registers and ways within bounds -/
structure Wel (xs : List In) (rs : List (List Int)) (g : Nat) : Prop where
  w : ∀ (i : Nat) (x : In), xs[i]? = some x → ∀ t ∈ wyI x i (reI rs i), 0 ≤ t ∧ t < xs.length
  r : ∀ (i : Nat) (x : In), xs[i]? = some x → ∀ d ∈ x.rdI, 0 ≤ d ∧ d < g
theorem clo_g {xs : List In} {rs : List (List Int)} {g : Nat} (W : Wel xs rs g) : Clo xs rs (fun _ k => decide (k < g)) := fun i x e k c => by
  rw [stB_true] at c
  rcases c with ⟨⟨t, _, c⟩, _⟩ | ⟨q, _, _, c, _⟩ | c
  · exact c
  · exact c
  · have := (W.r i x e _ c).2
    exact decide_eq_true (by omega)
theorem Liv.lt {xs : List In} {rs : List (List Int)} {ms : List Nat} {g : Nat} (h : Liv xs rs ms) (W : Wel xs rs g) {i k : Nat} (hi : i < xs.length) (c : (ms.getD i 0).testBit k = true) : k < g := of_decide_eq_true (h.le _ (clo_g W) i k hi c)
def unb (n g : Nat) (ms : List Nat) : Nat := (List.range (n * g)).countP fun p => !(ms.getD (p / g) 0).testBit (p % g)
theorem countP_lt {p q : Nat → Bool} : ∀ {l : List Nat}, (∀ x ∈ l, q x = true → p x = true) → ∀ z ∈ l, p z = true → q z = false → l.countP q < l.countP p
  | [], _, z, hz, _, _ => absurd hz (by simp)
  | y :: l, h, z, hz, hp, hq => by
    have hl : ∀ x ∈ l, q x = true → p x = true := fun x hx => h x (List.mem_cons_of_mem _ hx)
    have le : l.countP q ≤ l.countP p := List.countP_mono_left hl
    rw [List.countP_cons, List.countP_cons]
    rcases List.mem_cons.mp hz with e | e
    · subst e
      rw [hp, hq]
      simp
      omega
    · have := countP_lt hl z e hp hq
      have hy := h y (List.mem_cons_self ..)
      cases e1 : q y with
      | true => rw [hy e1]; simp; omega
      | false => cases e2 : p y <;> simp <;> omega
structure WL (xs : List In) (rs : List (List Int)) (g : Nat) (ms ps : List Nat) : Prop where
  len : ms.length = xs.length
  pl : ∀ p ∈ ps, p < xs.length
  fx : ∀ (i : Nat) (x : In), i ∉ ps → xs[i]? = some x → ∀ k, (ms.getD i 0).testBit k = stB x i (reI rs i) (bF ms) k
  up : ∀ (i : Nat) (x : In), xs[i]? = some x → ∀ k, (ms.getD i 0).testBit k = true → stB x i (reI rs i) (bF ms) k = true
  le : ∀ f, Clo xs rs f → ∀ i k, i < xs.length → (ms.getD i 0).testBit k = true → f (i : Int) k = true
  ms : unb xs.length g ms * (xs.length + 1) + ps.length ≤ xs.length * g * (xs.length + 1) + xs.length
theorem rep0 (n i : Nat) : (List.replicate n (0 : Nat)).getD i 0 = 0 := by
  simp [List.getD, List.getElem?_replicate]
  split <;> rfl
theorem WL.start {xs : List In} {rs : List (List Int)} {g : Nat} : WL xs rs g (List.replicate xs.length 0) (List.range xs.length) where
  len := by simp
  pl p h := List.mem_range.mp h
  fx i x h e := absurd (List.mem_range.mpr (List.getElem?_eq_some_iff.mp e).1) h
  up i x e k h := by rw [rep0] at h; simp at h
  le f _ i k _ h := by rw [rep0] at h; simp at h
  ms := by
    rw [List.length_range]
    have : unb xs.length g (List.replicate xs.length 0) ≤ xs.length * g := Nat.le_trans List.countP_le_length (by simp)
    exact Nat.add_le_add_right (Nat.mul_le_mul_right _ this) _
theorem WL.fin {xs : List In} {rs : List (List Int)} {g : Nat} {ms : List Nat} (h : WL xs rs g ms []) : Liv xs rs ms := ⟨h.len, fun i x e => h.fx i x (by simp) e, h.le⟩
theorem WL.skip {xs : List In} {rs : List (List Int)} {g : Nat} {ms ps : List Nat} {i m : Nat} {x : In} (h : WL xs rs g ms (ps ++ [i])) (ex : xs[i]? = some x) (hm : ∀ k, m.testBit k = stB x i (reI rs i) (bF ms) k) (e : m = ms.getD i 0) : WL xs rs g ms ps where
  len := h.len
  pl p hp := h.pl p (List.mem_append.mpr (.inl hp))
  fx j y hj ey k := by
    by_cases c : j = i
    · subst c
      rw [ex] at ey
      obtain rfl := Option.some.inj ey
      rw [← e]
      exact hm k
    · exact h.fx j y (fun z => (List.mem_append.mp z).elim hj fun z => c (List.mem_singleton.mp z)) ey k
  up := h.up
  le := h.le
  ms := by
    have := h.ms
    rw [List.length_append, List.length_singleton] at this
    omega
theorem getD_set (ms : List Nat) (i j m : Nat) (hi : i < ms.length) : (ms.set i m).getD j 0 = if j = i then m else ms.getD j 0 := by
  by_cases e : j = i
  · subst e
    rw [if_pos rfl, List.getD_eq_getElem?_getD, List.getElem?_set_self hi]
    rfl
  · rw [if_neg e, List.getD_eq_getElem?_getD, List.getElem?_set_ne (Ne.symm e), List.getD_eq_getElem?_getD]
theorem WL.next {xs : List In} {rs : List (List Int)} {g : Nat} {ms ps bs : List Nat} {i m : Nat} {x : In} (W : Wel xs rs g) (h : WL xs rs g ms (ps ++ [i])) (ex : xs[i]? = some x) (hm : ∀ k, m.testBit k = stB x i (reI rs i) (bF ms) k) (ne : m ≠ ms.getD i 0)
    (hb : ∀ (j : Nat) (y : In), xs[j]? = some y → (j ∈ bs ↔ (i : Int) ∈ wyI y j (reI rs j))) (hbl : ∀ j ∈ bs, j < xs.length) (hbn : bs.length ≤ xs.length) : WL xs rs g (ms.set i m) (ps ++ bs) ∧ unb xs.length g (ms.set i m) * (xs.length + 1) + (ps ++ bs).length < unb xs.length g ms * (xs.length + 1) + (ps ++ [i]).length := by
  have hi : i < xs.length := (List.getElem?_eq_some_iff.mp ex).1
  have hi' : i < ms.length := by rw [h.len]; exact hi
  have G := fun j => getD_set ms i j m hi'
  have grow : ∀ (t : Int) (k : Nat), bF ms t k = true → bF (ms.set i m) t k = true := fun t k e => by
    unfold bF at e ⊢
    rw [G]
    by_cases c : t.toNat = i
    · rw [if_pos c, hm k]
      rw [c] at e
      exact h.up i x ex k e
    · rw [if_neg c]; exact e
  have same : ∀ (t : Int) (k : Nat), 0 ≤ t → t ≠ i → bF (ms.set i m) t k = bF ms t k := fun t k p e => by
    unfold bF
    rw [G, if_neg (by omega)]
  have hle : ∀ f, Clo xs rs f → ∀ j k, j < xs.length → ((ms.set i m).getD j 0).testBit k = true → f (j : Int) k = true := fun f cf j k hj e => by
    rw [G] at e
    by_cases c : j = i
    · subst c
      rw [if_pos rfl, hm k] at e
      refine cf j x ex k (stB_mono (fun t ht ft => ?_) e)
      obtain ⟨t0, t1⟩ := W.w j x ex t ht
      obtain ⟨n, rfl⟩ := Int.eq_ofNat_of_zero_le t0
      rw [bF_nat] at ft
      exact h.le f cf n k (by omega) ft
    · rw [if_neg c] at e
      exact h.le f cf j k hj e
  have lt : unb xs.length g (ms.set i m) < unb xs.length g ms := by
    have : ∃ k, m.testBit k ≠ (ms.getD i 0).testBit k := by
      rcases Classical.em (∃ k, m.testBit k ≠ (ms.getD i 0).testBit k) with c | c
      · exact c
      · exact absurd (Nat.eq_of_testBit_eq fun k => Classical.byContradiction fun z => c ⟨k, z⟩) ne
    obtain ⟨k, hk⟩ := this
    have u := h.up i x ex k
    rw [← hm k] at u
    have f1 : (ms.getD i 0).testBit k = false := by
      cases e : (ms.getD i 0).testBit k with
      | false => rfl
      | true => exact absurd (by rw [u e, e]) hk
    have f2 : m.testBit k = true := by
      cases e : m.testBit k with
      | true => rfl
      | false => exact absurd (by rw [f1, e]) hk
    have kg : k < g := by
      have := hle _ (clo_g W) i k hi (by rw [G, if_pos rfl]; exact f2)
      exact of_decide_eq_true this
    have d1 : (i * g + k) / g = i := by rw [Nat.mul_comm, Nat.mul_add_div (by omega), Nat.div_eq_of_lt kg, Nat.add_zero]
    have d2 : (i * g + k) % g = k := by rw [Nat.mul_comm, Nat.mul_add_mod, Nat.mod_eq_of_lt kg]
    refine countP_lt (fun p _ hp => ?_) (i * g + k) (List.mem_range.mpr ?_) ?_ ?_
    · have := grow ((p / g : Nat) : Int) (p % g)
      rw [bF_nat, bF_nat] at this
      cases e : (ms.getD (p / g) 0).testBit (p % g) with
      | false => rfl
      | true => rw [this e] at hp; exact hp
    · have : (i + 1) * g ≤ xs.length * g := Nat.mul_le_mul_right _ hi
      rw [Nat.add_mul] at this
      omega
    · show (!(ms.getD ((i * g + k) / g) 0).testBit ((i * g + k) % g)) = true
      rw [d1, d2, f1]; rfl
    · show (!((ms.set i m).getD ((i * g + k) / g) 0).testBit ((i * g + k) % g)) = false
      rw [d1, d2, G, if_pos rfl, f2]; rfl
  have dec : unb xs.length g (ms.set i m) * (xs.length + 1) + (ps ++ bs).length < unb xs.length g ms * (xs.length + 1) + (ps ++ [i]).length := by
    have : (unb xs.length g (ms.set i m) + 1) * (xs.length + 1) ≤ unb xs.length g ms * (xs.length + 1) := Nat.mul_le_mul_right _ lt
    rw [Nat.add_mul] at this
    rw [List.length_append, List.length_append, List.length_singleton]
    omega
  refine ⟨⟨by rw [List.length_set]; exact h.len, fun p hp => ?_, fun j y hj ey k => ?_, fun j y ey k e => ?_, hle, ?_⟩, dec⟩
  · rcases List.mem_append.mp hp with z | z
    · exact h.pl p (List.mem_append.mpr (.inl z))
    · exact hbl p z
  · have j1 : j ∉ ps := fun z => hj (List.mem_append.mpr (.inl z))
    have j2 : j ∉ bs := fun z => hj (List.mem_append.mpr (.inr z))
    rw [hb j y ey] at j2
    have cg : stB y j (reI rs j) (bF (ms.set i m)) k = stB y j (reI rs j) (bF ms) k := stB_congr fun t ht => same t k (W.w j y ey t ht).1 fun e => j2 (by rw [← e]; exact ht)
    rw [cg, G]
    by_cases c : j = i
    · subst c
      rw [ex] at ey
      obtain rfl := Option.some.inj ey
      rw [if_pos rfl]
      exact hm k
    · rw [if_neg c]
      exact h.fx j y (fun z => (List.mem_append.mp z).elim j1 fun z => c (List.mem_singleton.mp z)) ey k
  · rw [G] at e
    refine stB_mono (fun t _ => grow t k) ?_
    by_cases c : j = i
    · subst c
      rw [ex] at ey
      obtain rfl := Option.some.inj ey
      rw [if_pos rfl, hm k] at e
      exact e
    · rw [if_neg c] at e
      exact h.up j y ey k e
  · have := h.ms
    omega

/-! ### sets as numbers: the program -/
section
variable {X : Cx}
theorem ip_or : PIp X .BitOr (ipI fun i j => Builtin.bitOr i j) := by
  intro pins s σ H x y v u Q I r1 r2 h
  obtain ⟨i, j, e1, e2, q⟩ := h
  subst e1; subst e2
  obtain ⟨t, rfl⟩ := r1
  obtain ⟨t', rfl⟩ := r2
  exact PyProof.Rows.ior_int ⟨.int _, H, I.tok _, ⟨_, rfl⟩, q⟩
theorem ip_and : PIp X .BitAnd (ipI fun i j => Builtin.bitAnd i j) := by
  intro pins s σ H x y v u Q I r1 r2 h
  obtain ⟨i, j, e1, e2, q⟩ := h
  subst e1; subst e2
  obtain ⟨t, rfl⟩ := r1
  obtain ⟨t', rfl⟩ := r2
  exact PyProof.Rows.iand_int ⟨.int _, H, I.tok _, ⟨_, rfl⟩, q⟩
end
def spMask (K : PySem.W.Frag) : Sp := fun vs H Q _ => ∃ (v : V) (ns : List Int), vs = [v] ∧ DT K H v (.tuple (ns.map .int)) ∧ (∀ z ∈ ns, 0 ≤ z ∧ z ≤ 1000) ∧ ∀ m : Nat, (∀ k : Nat, m.testBit k = decide ((k : Int) ∈ ns)) → Q (.int (m : Int)) H
def spNums (K : PySem.W.Frag) : Sp := fun vs H Q _ => ∃ (m : Nat), vs = [.int (m : Int)] ∧ Builtin.Int.intBits (m : Int) ≤ 1000 ∧ ∀ u H', DT K H' u (.tuple (((nuOf m).map Int.ofNat).map .int)) → Same H H' → Q u H'
def spNeed (K : PySem.W.Frag) : Sp := fun vs H Q _ => ∃ (v vr : V) (x : In) (i : Nat) (r : Option (List Int)) (N : Addr) (ms : List Nat), vs = [v, .int (i : Int), vr, .ref N] ∧ DT K H v x.D ∧ DT K H vr (match r with
    | some r => regD r
    | none => .none) ∧ H N = some (.lst (bV ms)) ∧ (∀ t ∈ wyI x i r, 0 ≤ t ∧ t < ms.length) ∧ (∀ q, r = some q → q.length = 5 ∧ ∀ z ∈ q, 0 ≤ z ∧ z ≤ 1000) ∧ (∀ z ∈ x.wrt, 0 ≤ z ∧ z ≤ 1000) ∧ (∀ z ∈ x.rdI, 0 ≤ z ∧ z ≤ 1000) ∧ x.ops.length ≤ 10 ∧
    ∀ (m : Nat) (H' : Hp), (∀ k, m.testBit k = stB x i r (bF ms) k) → Same H H' → Q (.int (m : Int)) H'
theorem ds_len (x : In) : x.ds.length ≤ 5 := by
  cases x <;> exact Nat.le_of_ble_eq_true rfl
theorem rdOf_eq (x : In) : rdOf x.ops = x.rdI.map .int := by
  unfold rdOf In.rdI
  rw [List.map_map]
  rfl
theorem rd_len (x : In) : x.rdI.length ≤ x.ops.length := by
  unfold In.rdI
  rw [List.length_map]
  exact List.length_filter_le _ _
theorem and_cast (a b : Nat) : Builtin.bitAnd (a : Int) (b : Int) = ((a &&& b : Nat) : Int) := by
  unfold Builtin.bitAnd
  rw [decide_eq_true (Int.natCast_nonneg a), decide_eq_true (Int.natCast_nonneg b)]
  show (((a : Int).toNat &&& (b : Int).toNat : Nat) : Int) = _
  rw [Int.toNat_natCast, Int.toNat_natCast]
theorem mask_step {m k : Nat} {z : Int} {l : List Int} (hz : 0 ≤ z) (h : m.testBit k = decide ((k : Int) ∈ l)) : (m ||| 2 ^ z.toNat).testBit k = decide ((k : Int) ∈ l ++ [z]) := by
  rw [Nat.testBit_or, h, Nat.testBit_two_pow]
  have : decide (z.toNat = k) = decide ((k : Int) = z) := decide_eq_decide.mpr (by omega)
  rw [this, Bool.eq_iff_iff]
  simp
section
variable {P : Program} {w : World} {K : PySem.W.Frag} {mg : Str → Option Value} {base : Heap} {a : Ad}
theorem ok_mask_of (T : Txt K mg a) : FnOk P w K mg base CX0 1 a.f_mask_of a.d_mask_of ["numbers"] (spMask K) := by
  refine T.F_mask_of.ok sc_mask_of (fun vs H Q E h => ?_) (fun cdv A outer s H vs Q E hr h => ?_)
  · obtain ⟨_, _, rfl, _⟩ := h; rfl
  · obtain ⟨v, ns, rfl, hv, hn, q⟩ := h
    obtain ⟨pa, xs, rfl, hs, hd⟩ := hv.ts
    have hlx := hd.len
    obtain rfl := hd.ints
    refine ⟨_, (pss_cons (ps_set (i := 1) sc_mask_of.nd rfl (Or.inl rfl) pe_int)
      (pss_cons (ps_for PassesOwn.never rfl (pi_tup (pv 0)) (pg_name (i := 2) sc_mask_of.nd rfl (Or.inl rfl)) (pss_one (ps_aug (i := 1) sc_mask_of.nd rfl (Or.inl rfl) (pe_op op_shl pe_int (pv 2)) My.ip_or)))
      (pss_one (ps_ret (pv 1))))), ?_⟩
    refine ⟨_, rfl, pa, rfl, ⟨_, hs⟩, ?_⟩
    refine for_tup (K := K) (a := pa) (xs := ns.map V.int) (fun i σ H' => ∃ (m : Nat) (o2 : Option V), σ = [some (.ref pa), some (.int (m : Int)), o2] ∧ H' = H ∧ ∀ k : Nat, m.testBit k = decide ((k : Int) ∈ ns.take i)) ⟨0, _, rfl, rfl, fun k => by simp⟩ (fun i σ H' _ ⟨_, _, _, e, _⟩ => by rw [e]; exact hs) ?_ ?_
    · rintro i x σ H' hx ⟨m, o2, rfl, rfl, hm⟩
      rw [List.getElem?_map] at hx
      obtain ⟨z, ez, rfl⟩ := Option.map_eq_some_iff.mp hx
      obtain ⟨z0, z1⟩ := hn z (List.mem_of_getElem? ez)
      refine ⟨_, rfl, _, rfl, 1, z, rfl, rfl, ⟨z0, by omega, by decide⟩, (m : Int), 1 * 2 ^ z.toNat, rfl, rfl, ?_⟩
      refine ⟨m ||| 2 ^ z.toNat, some (.int z), ?_, rfl, fun k => ?_⟩
      · rw [← or_cast]
        have : (1 : Int) * 2 ^ z.toNat = ((2 ^ z.toNat : Nat) : Int) := by rw [Int.one_mul, PySem.W.kbt_cast]
        rw [this]
        rfl
      · rw [List.take_succ, ez]
        exact mask_step z0 (hm k)
    · rintro σ H' ⟨m, o2, rfl, rfl, hm⟩
      refine ⟨_, rfl, q m fun k => ?_⟩
      rw [List.length_map, List.take_length] at hm
      exact hm k
theorem ok_numbers_of (T : Txt K mg a) : FnOk P w K mg base CX0 1 a.f_numbers_of a.d_numbers_of ["mask"] (spNums K) := by
  refine T.F_numbers_of.ok sc_numbers_of (fun vs H Q E h => ?_) (fun cdv A outer s H vs Q E hr h => ?_)
  · obtain ⟨_, rfl, _⟩ := h; rfl
  · obtain ⟨m, rfl, hb, q⟩ := h
    refine ⟨_, (pss_one (ps_ret (pe_callTy call_tuple_of (by rfl) T.b_tuple (by decide +kernel) (pa_cons (pe_lc (own := [("number", 1)]) (g := gName 1) rfl sc_numbers_of.nd (pi_range1 rfl T.b_range (pa_cons (pe_bits (pv 0)) pa_nil)) (blkOk_by (own := [("number", 1)]) (N := ["mask", "number"]) (sc := defScope s_numbers_of) (by decide +kernel)) (fun _ _ _ _ _ => pg_name (i := 1) sc_numbers_of.nd rfl (Or.inl rfl)) (fun _ _ _ _ _ => (pts_one (pt_cmpR op_eq (pe_op op_and (pe_op op_shr (pv 0) (pv 1)) pe_int) pe_int (nomark _)))) (fun _ _ _ _ _ => (pv 1))) pa_nil)))), ?_⟩
    have hz := sizeLine_eq
    refine ⟨_, rfl, _, rfl, _, rfl, by omega, by omega, fun L nL => ?_⟩
    refine lc_range (lo := 0) (n := ((Builtin.Int.intBits (m : Int) : Nat) : Int).toNat) (fun i H' => Same H H' ∧ H' L = some (.lst (((((List.range i).filter fun k => m.testBit k).map Int.ofNat)).map V.int))) ⟨sN (Same.refl H) nL, upd_same⟩ ?_ ?_
    · rintro i H' hi ⟨ss, hL⟩
      rw [show (0 : Int) + (i : Int) = (i : Int) from Int.zero_add _]
      have hi : i < Builtin.Int.intBits (m : Int) := by rw [Int.toNat_natCast] at hi; exact hi
      refine ⟨rfl, _, rfl, _, rfl, _, _, rfl, rfl, Int.natCast_nonneg i, _, _, rfl, rfl, rfl, _, rfl, ?_⟩
      have e1 : decide (V.int (Builtin.bitAnd ((m : Int) / 2 ^ ((i : Int)).toNat) 1) = V.int 1) = m.testBit i := by
        rw [Int.toNat_natCast, Nat.testBit_eq_decide_div_mod_eq, ← PySem.W.kbt_cast, show ((m : Int) / ((2 ^ i : Nat) : Int)) = ((m / 2 ^ i : Nat) : Int) from rfl, show (1 : Int) = ((1 : Nat) : Int) from rfl, and_cast, Nat.and_one_is_mod]
        refine decide_eq_decide.mpr ?_
        constructor
        · intro h
          injection h with h
          omega
        · intro h
          rw [h]
      rw [e1]
      have lf : ((List.range i).filter fun k => m.testBit k).length ≤ i := Nat.le_trans (List.length_filter_le _ _) (by simp)
      rw [List.range_succ, List.filter_append]
      cases e : m.testBit i with
      | true =>
        refine iteT ⟨_, rfl, _, hL, by simp; omega, sUpd ss nL, ?_⟩
        rw [upd_same]
        simp [e]
      | false => exact iteF ⟨ss, by rw [hL]; simp [e]⟩
    · rintro H' ⟨ss, hL⟩
      refine ⟨L, _, rfl, .inl ⟨SqL.of hL, fun p np => ?_⟩⟩
      refine q _ _ (.tup (SqT.of upd_same) ?_) (sN ss np)
      rw [Int.toNat_natCast]
      exact dts_ints _
theorem ok_needed_at (T : Txt K mg a) : FnOk P w K mg base CX0 3 a.f_needed_at a.d_needed_at ["instruction", "index", "region", "needed"] (spNeed K) := by
  have G_followers : FnOk P w K mg base CX0 1 _ _ _ _ := ok_followers T
  have G_writes : FnOk P w K mg base CX0 1 _ _ _ _ := ok_writes T
  have G_can_raise : FnOk P w K mg base CX0 1 _ _ _ _ := ok_can_raise T
  have G_reads : FnOk P w K mg base CX0 2 _ _ _ _ := ok_reads T
  have G_mask_of : FnOk P w K mg base CX0 1 _ _ _ _ := ok_mask_of T
  refine T.F__needed_at.ok sc_needed_at (fun vs H Q E h => ?_) (fun cdv A outer s H vs Q E hr h => ?_)
  · obtain ⟨_, _, _, _, _, _, _, rfl, _⟩ := h; rfl
  · obtain ⟨v, vr, x, i, r, N, ms, rfl, hv, hvr, hN, hw, hr5, hwr, hrd, hol, q⟩ := h
    refine ⟨_, (pss_cons (ps_set (i := 4) sc_needed_at.nd rfl (Or.inl rfl) pe_int)
      (pss_cons (ps_for PassesOwn.never rfl (pi_tup (pe_call G_followers (hr.mono (by decide)) rfl T.g_followers T.k_followers T.bd_followers .nil pass0 (pa_cons (pv 0) (pa_cons (pv 1) pa_nil)))) (pg_name (i := 5) sc_needed_at.nd rfl (Or.inl rfl)) (pss_one (ps_aug (i := 4) sc_needed_at.nd rfl (Or.inl rfl) (pe_ix ix_list (pv 3) (pv 5) (fun _ _ => rfl)) My.ip_or)))
      (pss_cons (ps_aug (i := 4) sc_needed_at.nd rfl (Or.inl rfl) (pe_un un_inv (pe_call G_mask_of (hr.mono (by decide)) rfl T.g_mask_of T.k_mask_of T.bd_mask_of .nil pass0 (pa_cons (pe_call G_writes (hr.mono (by decide)) rfl T.g_writes T.k_writes T.bd_writes .nil pass0 (pa_cons (pv 0) pa_nil)) pa_nil))) My.ip_and)
      (C8.pss_cut (ps_if (PW.pt (pw_and (pt_cmpR op_notN (pv 2) pe_non (nomark _)) (pw_and1 (pt_val (pe_call G_can_raise (hr.mono (by decide)) rfl T.g_can_raise T.k_can_raise T.bd_can_raise .nil pass0 (pa_cons (pv 0) pa_nil)))))) (pss_one (ps_aug (i := 4) sc_needed_at.nd rfl (Or.inl rfl) (pe_op op_and (pe_ix ix_list (pv 3) (pe_ix ix_tup (pv 2) pe_int (fun _ _ => rfl)) (fun _ _ => rfl)) (pe_un un_inv (pe_call G_mask_of (hr.mono (by decide)) rfl T.g_mask_of T.k_mask_of T.bd_mask_of .nil pass0 (pa_cons (pe_slice sl_tup (pv 2) (po_some pe_int) po_none) pa_nil)))) My.ip_or)) pss_nil)
      (pss_one (ps_ret (pe_op op_or (pv 4) (pe_call G_mask_of (hr.mono (by decide)) rfl T.g_mask_of T.k_mask_of T.bd_mask_of .nil pass0 (pa_cons (pe_call G_reads (hr.mono (by decide)) rfl T.g_reads T.k_reads T.bd_reads .nil pass0 (pa_cons (pv 0) pa_nil)) pa_nil))))))))), ?_⟩
    refine ⟨_, rfl, _, rfl, v, x.nm, x.ds, (x.folP i).map .int, i, rfl, hv, x.foOk i, fun u H1 hu s1 => ?_⟩
    obtain ⟨pa, xs, rfl, hs, hd⟩ := hu.ts
    obtain rfl := hd.ints
    refine ⟨pa, rfl, ⟨_, hs⟩, ?_⟩
    refine for_tup (K := K) (a := pa) (xs := (x.folP i).map V.int) (fun j σ H' => ∃ (m : Nat) (o5 : Option V), σ = [some v, some (.int (i : Int)), some vr, some (.ref N), some (.int (m : Int)), o5] ∧ H' = H1 ∧ ∀ k : Nat, m.testBit k = ((x.folP i).take j).any fun t => bF ms t k) ⟨0, _, rfl, rfl, fun k => by simp⟩ (fun i σ H' _ ⟨_, _, _, e, _⟩ => by rw [e]; exact hs) ?_ ?_
    · rintro j y σ H' hx ⟨m, o5, rfl, rfl, hm⟩
      rw [List.getElem?_map] at hx
      obtain ⟨t, et, rfl⟩ := Option.map_eq_some_iff.mp hx
      have tm := List.mem_of_getElem? et
      rw [In.folP_mem] at tm
      obtain ⟨t0, t1⟩ := hw t (List.mem_append.mpr (.inl tm))
      obtain ⟨n, rfl⟩ := Int.eq_ofNat_of_zero_le t0
      have hn : n < ms.length := by omega
      have eb : (bV ms)[n]? = some (V.int ((ms.getD n 0 : Nat) : Int)) := by
        unfold bV
        rw [List.getElem?_map]
        simp [hn]
      refine ⟨_, rfl, _, rfl, _, rfl, _, _, _, _, rfl, rfl, SqL.of (s1 _ _ hN), atI_nat eb, (m : Int), _, rfl, rfl, ?_⟩
      refine ⟨m ||| ms.getD n 0, some (.int n), ?_, rfl, fun k => ?_⟩
      · rw [← or_cast]
        rfl
      · rw [Nat.testBit_or, hm k, List.take_succ, et]
        simp [bF]
    · rintro σ H' ⟨m, o5, rfl, rfl, hm⟩
      rw [List.length_map, List.take_length] at hm
      have hN1 := s1 _ _ hN
      have hv1 := hv.keep (KT.same s1)
      have hvr1 := hvr.keep (KT.same s1)
      refine ⟨_, rfl, _, rfl, v, x.nm, x.ds, _, rfl, hv1, x.wrOk, fun u H2 hu2 s2 => ?_⟩
      refine ⟨u, x.wrt, rfl, hu2, hwr, fun mw hmw => ?_⟩
      refine ⟨_, rfl, _, _, rfl, rfl, ?_⟩
      have b1 : ∀ k, (m - (m &&& mw)).testBit k = (((x.fol i).any fun t => bF ms t k) && !decide ((k : Int) ∈ x.wrt)) := fun k => by
        rw [tb_sub, hm k, hmw k]
        congr 1
        rw [Bool.eq_iff_iff, List.any_eq_true, List.any_eq_true]
        simp only [In.folP_mem]
      have hN2 := s2 _ _ hN1
      have hvr2 := hvr1.keep (KT.same s2)
      have hv2 := hv1.keep (KT.same s2)
      have s12 := sTr s1 s2
      refine ⟨fun σ' H' => ∃ (m2 : Nat), σ' = [some v, some (.int (i : Int)), some vr, some (.ref N), some (.int (m2 : Int)), o5] ∧ Same H H' ∧ DT K H' v x.D ∧ ∀ k, (m2.testBit k || decide ((k : Int) ∈ x.rdI)) = stB x i r (bF ms) k, ?_, ?_⟩
      · refine ⟨_, rfl, rfl, _, rfl, ?_⟩
        cases r with
        | none =>
          obtain rfl : vr = .non := by cases hvr2; rfl
          refine iteF (iteF ⟨m - (m &&& mw), by rw [← andnot_cast]; rfl, s12, hv2, fun k => ?_⟩)
          rw [b1 k]
          unfold stB
          simp
        | some r =>
          have hr := hr5 r rfl
          have hne : vr ≠ .non := fun e => by rw [e] at hvr2; cases hvr2
          rw [show (!decide (vr = V.non)) = true by rw [decide_eq_false hne]; rfl]
          refine iteT ⟨_, rfl, v, x.nm, x.ds, rfl, hv2, _, rfl, ?_⟩
          rw [x.canOk]
          cases ec : x.can with
          | false =>
            refine iteF ⟨m - (m &&& mw), by rw [← andnot_cast]; rfl, s12, hv2, fun k => ?_⟩
            rw [b1 k]
            unfold stB
            rw [ec]
            simp
          | true =>
            refine iteT ?_
            obtain ⟨pr, zs, rfl, hzs, dzs⟩ := hvr2.ts
            obtain rfl := dzs.ints
            obtain ⟨t0, t1⟩ := hw (r.getD 2 0) (List.mem_append.mpr (.inr (by unfold enI; rw [ec]; exact List.mem_singleton.mpr rfl)))
            obtain ⟨n, en⟩ := Int.eq_ofNat_of_zero_le t0
            have hn : n < ms.length := by omega
            have eb : (bV ms)[n]? = some (V.int ((ms.getD n 0 : Nat) : Int)) := by
              unfold bV
              rw [List.getElem?_map]
              simp [hn]
            obtain ⟨r0, r1, r2, r3, r4, er⟩ : ∃ r0 r1 r2 r3 r4, r = [r0, r1, r2, r3, r4] := by
              rcases r with _ | ⟨r0, _ | ⟨r1, _ | ⟨r2, _ | ⟨r3, _ | ⟨r4, _ | ⟨r5, r6⟩⟩⟩⟩⟩⟩
              all_goals first | exact ⟨_, _, _, _, _, rfl⟩ | (have := hr.1; simp at this)
            subst er
            obtain rfl : r2 = (n : Int) := en
            refine ⟨_, rfl, _, rfl, _, rfl, _, _, _, _, rfl, rfl, hzs, atI_nat (j := 2) rfl, _, _, _, _, rfl, rfl, SqL.of hN2, atI_nat eb, ?_⟩
            refine ⟨_, rfl, _, rfl, pr, _, rfl, hzs, (show ¬ (HT.sIx 5 0 (some 3) = 0 ∧ HT.sIx 5 5 none = 5) by decide), fun p np => ?_⟩
            have sp := sN (Same.refl H2) np (o := .tup (cutV [.int r0, .int r1, .int n, .int r3, .int r4] (some 3) none))
            refine ⟨.ref p, [r3, r4], rfl, .tup (SqT.of upd_same) (.cons (.int r3) (.cons (.int r4) .nil)), fun z hz => hr.2 z (by simp only [List.mem_cons, List.not_mem_nil, or_false] at hz ⊢; omega), fun mx hmx => ?_⟩
            refine ⟨_, rfl, _, _, rfl, rfl, _, _, rfl, rfl, (m - (m &&& mw)) ||| (ms.getD n 0 - (ms.getD n 0 &&& mx)), ?_, sTr s12 sp, hv2.keep (KT.same sp), fun k => ?_⟩
            · rw [← or_cast, ← andnot_cast, ← andnot_cast]
              rfl
            · rw [Nat.testBit_or, b1 k, tb_sub, hmx k]
              unfold stB
              rw [ec]
              simp [bF]
      · rintro σ' H3 ⟨m2, rfl, s3, hv3, b2⟩
        have hdl := ds_len x
        refine ⟨_, rfl, _, rfl, v, x.nm, x.ds, x.ops, rfl, hv3, x.opsOk, by omega, by omega, fun u4 H4 hu4 s4 => ?_⟩
        rw [rdOf_eq] at hu4
        refine ⟨u4, x.rdI, rfl, hu4, hrd, fun mr hmr => ?_⟩
        refine ⟨_, _, rfl, rfl, ?_⟩
        dsimp only
        rw [or_cast]
        refine q _ _ (fun k => ?_) (sTr s3 s4)
        rw [Nat.testBit_or, hmr k]
        exact b2 k
end

/-! ### enumerate(a tuple) -/
namespace ET
open PySem PySem.Spec PyProof.Rows
/-- the tuple at a, each item in a new pair -/
def IteT (K : PySem.W.Frag) (a : Addr) : It :=
  ⟨fun i H => ∃ (xs : List V) (x : V), SqT K H a xs ∧ xs[i]? = some x, fun i H v H' => ∃ T x, v = .ref T ∧ H T = none ∧ H' = upd H T (.tup [.int (i : Nat), x]) ∧ ∀ xs, SqT K H a xs → xs[i]? = some x, fun i H => ∃ xs : List V, SqT K H a xs ∧ xs.length = i⟩
theorem turn_enumT {P : Program} {w : World} {K : PySem.W.Frag} {elts : List Expr} {kk : Nat} {tpos : Pos} (a e it : Addr) (hea : e ≠ a) (hai : a ≠ it) (hne : e ≠ it) :
    Turn P w K (.Tuple elts kk tpos) (IteT K a) [e, it] e (fun i h => (∃ old, IsEnum h e it ((i : Nat) : Int) old) ∧ h.IsTupleIter it a i) where
  mem := by simp
  obj := fun i h st b hb => by
    obtain ⟨⟨old, he⟩, ⟨o, ho, hc, hd⟩⟩ := st
    have e' : b = e ∨ b = it := by simpa using hb
    rcases e' with z | z
    · rw [z]; exact ⟨_, he, fun v q => nomatch q⟩
    · rw [z]; exact ⟨o, ho, fun v q => by rw [hd] at q; cases q⟩
  keep := fun i h h' st k => let ⟨⟨old, he⟩, hi⟩ := st; ⟨⟨old, k e (by simp) _ he⟩, hi.at fun o q => k it (by simp) o q⟩
  item := by
    intro X hP hw hK hc i pins s σ H E I hf st hg
    subst hP hw hK
    obtain ⟨⟨old, he⟩, hit⟩ := st
    obtain ⟨xs, x, hq, hx⟩ := hg
    obtain ⟨its, rv, p, hz⟩ := I.tuple hq
    obtain ⟨u, hu, ru⟩ := rv.get hx
    have hel : e < s.heap.objs.size := Heap.lt_size he
    have hil : it < s.heap.objs.size := by obtain ⟨_, q, _⟩ := hit; exact Heap.lt_size q
    have hlt : i < its.toArray.size := by
      rw [List.size_toArray]
      exact (List.getElem?_eq_some_iff.mp hu).1
    have hh : X.A.in1.handled = none := by simp [I.ok.hd hc]
    refine wpAny_pyNext_enum_itemC (Draws.tuple (A := X.A.in1) hh it a hai its.toArray) he ⟨hit, p⟩ hlt hne (by simp [hne, hea]) fun x' h' tk hx' ho st' hT hsz hk => ?_
    obtain rfl : x' = u := by
      have e1 : its[i]? = some x' := by simpa using hx'
      rw [hu] at e1
      exact (Option.some.inj e1).symm
    refine ⟨_, rfl, wpAny_letOwnedTupleGo_enum (s := { s with heap := h', toks := tk + 1 }) ho fun h'' he' sb => ?_⟩
    have hT2 : h''.get? s.heap.objs.size = some { cls := .type "tuple", data := .seq #[.int (i : Nat) tk, x'] } := (sb.2 _ (Nat.ne_of_gt hel)).trans hT
    have new : ObjOk X.prog X.w (upd H s.heap.objs.size (.tup [.int (i : Nat), x])) h'' s.heap.objs.size (.tup [.int (i : Nat), x]) :=
      ⟨by show 2 ≤ sizeLine; decide, [.int (i : Nat) tk, x'], .cons ⟨_, rfl⟩ (.cons ru .nil), ⟨_, hT2, rfl, _, rfl⟩⟩
    have I1 : Inv X pins σ (upd H s.heap.objs.size (.tup [.int (i : Nat), x])) { s with heap := h'', toks := tk + 1 } :=
      I.turnedNew (ch := [e, it]) (fun b ob hb q => (sb.2 b (fun z => hb (by simp [z]))).trans (hk b ob (fun z => hb (by simp [z])) (fun z => hb (by simp [z])) q)) hf (Nat.le_refl _) new
    refine ⟨.ref s.heap.objs.size, _, I1, rfl, ⟨_, x, rfl, I.hok.fresh (Nat.le_refl _), rfl, fun ys hy => by rw [I.tuple_inj hy hq]; exact hx⟩, ⟨⟨x', ?_⟩, st'.1.at fun o q => (sb.2 it (Ne.symm hne)).trans q⟩, fun b hb => ?_⟩
    · have e1 : ((i + 1 : Nat) : Int) = (i : Int) + 1 := by omega
      rw [e1]; exact he'
    · have hb' : b < s.heap.objs.size := by
        have e' : b = e ∨ b = it := by simpa using hb
        rcases e' with z | z
        · rw [z]; exact hel
        · rw [z]; exact hil
      rw [upd_ne (Nat.ne_of_lt hb')]
      exact (hf b hb).1
  done := by
    intro X hP hw hK hc i pins s σ H E I hf st hg
    subst hP hw hK
    obtain ⟨⟨old, he⟩, hit⟩ := st
    obtain ⟨xs, hq, hx⟩ := hg
    obtain ⟨its, rv, p, hz⟩ := I.tuple hq
    obtain ⟨f0, f1, f2, f3, f4, f5⟩ := hf it (by simp)
    have hl := rv.length
    have hi : i = its.toArray.size := by rw [List.size_toArray]; omega
    subst hi
    have hh : X.A.in1.handled = none := by simp [I.ok.hd hc]
    exact wpAny_pyNext_enum_endD (Draws.tuple (A := X.A.in1) hh it a hai its.toArray) he ⟨hit, p⟩ fun h' eb => ⟨rfl, I.turned (t' := s.toks) (fun b o hb q => eb b o hb q) f0 f1 f3 f4 f5⟩
  self := fun A i s Q E st h => let ⟨⟨_, he⟩, _⟩ := st; wpAny_pyIter_enum he h
abbrev enT (z : Addr) : Obj := { cls := .type "enumerate", data := .fields #[.none, .bool false, .ref z, rawInt 0, .none, .none] }
set_option maxHeartbeats 4000000
theorem meets_enum_b {v : Value} {o : Obj} {H : Heap → Prop} (B : Begins v o H) :
    Meets (Builtin.«enumerate.__new__» ⟨[.type "enumerate", v], []⟩) (fun _ R s => H s.heap ∧ R (.ok (.ret (.ref (s.heap.push o).objs.size))) { s with heap := (s.heap.push o).push (enT s.heap.objs.size) }) :=
  .of_wp fun prog w A R s h => by
    obtain ⟨hp, g, d, tk, os⟩ := s; obtain ⟨h1, h⟩ := h; have hsub := sub_enumerate
    have q1 : ∀ {A' : Around} {E : Value → Shared → Prop} {Q : Value → Shared → Prop}, Q (.ref hp.objs.size) ⟨hp.push o, g, d, tk, os⟩ → wpAny (model prog w) A' (pyIter v) Q E ⟨hp, g, d, tk, os⟩ := fun q => B.iter prog w _ _ ⟨hp, g, d, tk, os⟩ _ h1 q
    wp_walk using q1
    refine wpAny_stack_any fun st => wpAny_pure ?_; split
    · rename_i c _ _ _ _ _; cases (c == Value.type "enumerate") <;> (wp_walk using q1; exact ⟨_, rfl, h⟩)
    · wp_walk using q1; exact ⟨_, rfl, h⟩
theorem call_enum_b {P : Program} {w : World} {A : Around} {E : Value → Shared → Prop} {s : Shared} {v : Value} {o : Obj} {H : Heap → Prop} {Q : Value → Shared → Prop} (B : Begins v o H) (h1 : H s.heap)
    (h : ∀ h', IsEnum h' (s.heap.objs.size + 1) s.heap.objs.size 0 .none → h'.get? s.heap.objs.size = some o → (∀ b ob, s.heap.get? b = some ob → h'.get? b = some ob) → Q (.ref (s.heap.objs.size + 1)) { s with heap := h' }) : wpAny (model P w) A (call (.type "enumerate") [v]) Q E s := by
  refine callType_new F.called_enumerate (by decide) (F.typeCall_enumerate_1 _) (F.newCall_enumerate_1 _) (fun obj => F.args_object_init_2 obj _) F.entry_enumerate_new (meets_enum_b B) ⟨h1, ?_⟩
  have hz : (s.heap.push o).objs.size = s.heap.objs.size + 1 := Heap.size_push ..
  show _ ∧ _
  rw [hz]
  have he : IsEnum ((s.heap.push o).push (enT s.heap.objs.size)) (s.heap.objs.size + 1) s.heap.objs.size 0 .none := by
    have := Heap.get?_push_size (s.heap.push o) (o := enT s.heap.objs.size) rfl
    rw [hz] at this; exact this
  exact ⟨⟨_, he, rfl⟩, h _ he (Heap.get?_push_of_some _ (Heap.get?_push_size _ B.free)) fun b ob x => Heap.get?_push_of_some _ (Heap.get?_push_of_some _ x)⟩
def iEnT (K : PySem.W.Frag) (ta : TA) : TI := fun σ H R => ta σ H fun vs H1 => ∃ a xs, vs = [.ref a] ∧ SqT K H1 a xs ∧ R (IteT K a) H1
theorem pi_enT {X : Cx} {e : Expr} {ta : TA} {p pos tpos : Pos} {elts : List Expr} {kk : Nat} (hg : Gl X "enumerate") (hm : X.mg "enumerate" = none) (ha : PA X [e] ta) (hs : starEach [e] X.env = [(false, eval e X.env)] := by rfl) :
    PI X (.Tuple elts kk tpos) (.Call (.Name "enumerate" p) [e] [] pos) (iEnT X.K ta) := by
  refine ⟨fun pins s σ H R I h => ?_⟩
  refine Call_ (ld_blt I hg hm boot_enumerate (PyProof.Rows.callWith_type1 (thn (ha.run pos pins s σ H _ I h) fun us s1 ⟨vs, H1, I1, r1, q1⟩ => ?_) hs rfl))
  obtain ⟨a, xs, ex, hq, q⟩ := q1
  subst ex
  cases r1 with
  | cons r rr =>
    cases rr
    cases r
    obtain ⟨its, rv, p', hz⟩ := I1.tuple hq
    have la : a < s1.heap.objs.size := by obtain ⟨_, z, _⟩ := p'; exact Heap.lt_size z
    refine call_enum_b (begins_tuple a its.toArray) p' fun h' he hit hk => wpAny_pyIter_enum he ?_
    have I2 : Inv X pins σ H1 { s1 with heap := h' } := I1.kept (t' := s1.toks) hk
    refine ⟨s1.heap.objs.size + 1, [s1.heap.objs.size + 1, s1.heap.objs.size], _, _, H1, rfl, I2, turn_enumT a (s1.heap.objs.size + 1) s1.heap.objs.size (Nat.ne_of_gt (Nat.lt_succ_of_lt la)) (Nat.ne_of_lt la) (Nat.succ_ne_self _), ⟨⟨.none, he⟩, ⟨_, hit, rfl, rfl⟩⟩, fun b hb => ?_, q⟩
    have e' : b = s1.heap.objs.size + 1 ∨ b = s1.heap.objs.size := by simpa using hb
    have hle : s1.heap.objs.size ≤ b := by
      rcases e' with z | z
      · rw [z]; exact Nat.le_add_right _ _
      · rw [z]; exact Nat.le_refl _
    exact I1.fpOk hle (I1.hok.fresh hle)
theorem for_enT {K : PySem.W.Frag} {a : Addr} {xs : List V} {g : TG} {tb : TS} {D : Ends} {σ : L2.St} {H : Hp} (Pv : Nat → L2.St → Hp → Prop) (h0 : Pv 0 σ H) (hl : ∀ i σ H, i ≤ xs.length → Pv i σ H → SqT K H a xs)
    (hs : ∀ i x σ H T, xs[i]? = some x → Pv i σ H → H T = none → g (.ref T) σ (upd H T (.tup [.int (i : Nat), x])) fun σ2 H2 => tb { D with nx := Pv (i + 1), ct := Pv (i + 1), bk := D.nx } σ2 H2) (hd : ∀ σ H, Pv xs.length σ H → D.nx σ H) :
    ∃ W : Nat → Nat → L2.St → Hp → Prop, (∃ m, W 0 m σ H) ∧ ∀ i m σ H, W i m σ H →
      ((IteT K a).stop i H ∧ D.nx σ H) ∨ ((IteT K a).go i H ∧ ∃ N : L2.St → Hp → Prop, (∀ σ' H', N σ' H' → ∃ m', m' < m ∧ W (i + 1) m' σ' H') ∧ ∀ x H', (IteT K a).yld i H x H' → g x σ H' fun σ2 H2 => tb { D with nx := N, ct := N, bk := D.nx } σ2 H2) := by
  refine ⟨fun i m σ H => m = xs.length - i ∧ i ≤ xs.length ∧ Pv i σ H, ⟨xs.length, by simp, Nat.zero_le _, h0⟩, ?_⟩
  rintro i m σ H ⟨rfl, hi, p⟩
  have q := hl i σ H hi p
  by_cases hlt : i < xs.length
  · refine .inr ⟨⟨xs, xs[i], q, by simp [hlt]⟩, Pv (i + 1), fun σ' H' p' => ⟨xs.length - (i + 1), by omega, rfl, hlt, p'⟩, fun x H' y => ?_⟩
    obtain ⟨T, x', e1, nT, e2, y⟩ := y
    subst e1; subst e2
    exact hs i x' σ H T (y xs q) p nT
  · have e : i = xs.length := by omega
    subst e
    exact .inl ⟨⟨xs, q, rfl⟩, hd σ H p⟩
end ET

/-! ### ways back -/
def bk (f : Nat → List Int) (n k : Nat) : List Nat := (List.range n).filter fun j => decide ((k : Int) ∈ f j)
def nV (l : List Nat) : List V := l.map fun (j : Nat) => V.int (j : Int)
structure Bk (H0 H' : Hp) (L : Addr) (n : Nat) (ps : Nat → Addr) (c : Nat → List Nat) : Prop where
  o : H' L = some (.lst ((List.range n).map fun k => V.ref (ps k)))
  r : ∀ k, k < n → H' (ps k) = some (.lst (nV (c k)))
  f : ∀ k, k < n → H0 (ps k) = none ∧ ps k ≠ L
  i : ∀ j k, j < n → k < n → ps j = ps k → j = k
theorem Bk.new {H0 H' : Hp} {L q : Addr} {n : Nat} {ps : Nat → Addr} {c : Nat → List Nat} {o : HO} (h : Bk H0 H' L n ps c) (nq : H' q = none) : Bk H0 (upd H' q o) L n ps c :=
  ⟨by rw [upd_ne (ne_of_none h.o nq)]; exact h.o, fun k hk => by rw [upd_ne (ne_of_none (h.r k hk) nq)]; exact h.r k hk, h.f, h.i⟩
theorem Bk.put {H0 H' : Hp} {L q : Addr} {n : Nat} {ps : Nat → Addr} {c : Nat → List Nat} {o : HO} (h : Bk H0 H' L n ps c) (nL : L ≠ q) (np : ∀ k, k < n → ps k ≠ q) : Bk H0 (upd H' q o) L n ps c :=
  ⟨by rw [upd_ne nL]; exact h.o, fun k hk => by rw [upd_ne (np k hk)]; exact h.r k hk, h.f, h.i⟩
theorem Bk.same {H0 H' H'' : Hp} {L : Addr} {n : Nat} {ps : Nat → Addr} {c : Nat → List Nat} (h : Bk H0 H' L n ps c) (s : Same H' H'') : Bk H0 H'' L n ps c :=
  ⟨s _ _ h.o, fun k hk => s _ _ (h.r k hk), h.f, h.i⟩
theorem Bk.app {H0 H' : Hp} {L : Addr} {n t : Nat} {ps : Nat → Addr} {c c' : Nat → List Nat} (h : Bk H0 H' L n ps c) (ht : t < n) (e : ∀ k, k < n → k ≠ t → c' k = c k) : Bk H0 (upd H' (ps t) (.lst (nV (c' t)))) L n ps c' :=
  ⟨by rw [upd_ne (h.f t ht).2.symm]; exact h.o, fun k hk => by
    by_cases q : k = t
    · rw [q, upd_same]
    · rw [upd_ne (fun z => q (h.i k t hk ht z)), e k hk q]; exact h.r k hk, h.f, h.i⟩
def spBack (K : PySem.W.Frag) : Sp := fun vs H Q _ => ∃ (v : V) (f : Nat → List Int) (n : Nat), vs = [v] ∧ DT K H v (.tuple ((List.range n).map fun i => .tuple ((f i).map .int))) ∧ (∀ i, i < n → ∀ t ∈ f i, 0 ≤ t ∧ t < n) ∧ (∀ i, i < n → (f i).Nodup) ∧ n ≤ 1000 ∧
  ∀ (L : Addr) (ps : Nat → Addr) (H' : Hp), Same H H' → H L = none → Bk H H' L n ps (bk f n) → Q (.ref L) H'
theorem bk_step (f : Nat → List Int) (i k : Nat) : bk f (i + 1) k = bk f i k ++ (if (k : Int) ∈ f i then [i] else []) := by
  unfold bk
  rw [List.range_succ, List.filter_append]
  by_cases e : (k : Int) ∈ f i <;> simp [e]
theorem bk_len (f : Nat → List Int) (i k : Nat) : (bk f i k).length ≤ i := Nat.le_trans (List.length_filter_le _ _) (by simp)
theorem none_of {H H' : Hp} {p : Addr} (s : Same H H') (n : H' p = none) : H p = none := by
  cases e : H p with
  | none => rfl
  | some o => exact absurd (s p o e) (by rw [n]; exact fun z => nomatch z)
section
variable {P : Program} {w : World} {K : PySem.W.Frag} {mg : Str → Option Value} {base : Heap} {a : Ad}
theorem ok_ways_back (T : Txt K mg a) : FnOk P w K mg base CX0 1 a.f_ways_back a.d_ways_back ["ways"] (spBack K) := by
  refine T.F_ways_back.ok sc_ways_back (fun vs H Q E h => ?_) (fun cdv A outer s H vs Q E hr h => ?_)
  · obtain ⟨_, _, _, rfl, _⟩ := h; rfl
  · obtain ⟨v, f, n, rfl, hv, hf, hnd, hn, q⟩ := h
    have hz := sizeLine_eq
    obtain ⟨pa, xs, rfl, hs, hd⟩ := hv.ts
    have hlx : xs.length = n := by rw [hd.len]; simp
    refine ⟨_, (pss_cons (ps_setLc (i := 1) (own := [("_", 2)]) (g := gName 2) rfl sc_ways_back.nd rfl rfl (sw_true rfl rfl rfl (by decide +kernel)) (pi_tup (pv 0)) (blkOk_by (own := [("_", 2)]) (N := ["ways", "back", "_", "index", "onward", "target"]) (sc := defScope s_ways_back) (by decide +kernel)) (fun _ _ _ _ _ => pg_name (i := 2) sc_ways_back.nd rfl (Or.inl rfl)) (fun _ _ _ _ _ => pts_nil) (fun _ _ _ _ _ => (pe_lst pa_nil)))
      (pss_cons (ps_for PassesOwn.never rfl (ET.pi_enT (by rfl) T.b_enumerate (pa_cons (pv 0) pa_nil)) (pg_tup rfl (pgs_cons (pg_name (i := 3) sc_ways_back.nd rfl (Or.inl rfl)) (pgs_cons (pg_name (i := 4) sc_ways_back.nd rfl (Or.inl rfl)) pgs_nil))) (pss_one (ps_for PassesOwn.never rfl (pi_tup (pv 4)) (pg_name (i := 5) sc_ways_back.nd rfl (Or.inl rfl)) (pss_one (ps_expr (pe_bm PySem.F.plainAttrs_list PySem.F.slot_list_append PySem.F.type_list_append mt_append (pe_ix ix_list (pv 1) (pv 5) (fun _ _ => rfl)) (pa_cons (pv 3) pa_nil)))))))
      (pss_one (ps_ret (pv 1))))), ?_⟩
    refine ⟨_, rfl, pa, rfl, ⟨_, hs⟩, fun L nL => ?_⟩
    refine lc_tup (K := K) (a := pa) (xs := xs) (fun i H' => Same H H' ∧ ∃ ps : Nat → Addr, Bk H H' L i ps (fun _ => [])) ⟨sN (Same.refl H) nL, fun _ => L, by rw [upd_same]; rfl, fun k hk => absurd hk (by omega), fun k hk => absurd hk (by omega), fun k _ hk => absurd hk (by omega)⟩ (fun i H' _ h => seqT h.1 hs) ?_ ?_
    · rintro i x H' hx ⟨ss, ps, B⟩
      have hi : i < xs.length := (List.getElem?_eq_some_iff.mp hx).1
      refine ⟨rfl, (by show 0 ≤ sizeLine; decide), fun b nb => ?_⟩
      have nbL : b ≠ L := (ne_of_none B.o nb).symm
      have oL : upd H' b (.lst []) L = some (.lst ((List.range i).map fun k => V.ref (ps k))) := by rw [upd_ne nbL.symm]; exact B.o
      have hp : ∀ k, k < i → ps k ≠ b := fun k hk => ne_of_none (B.r k hk) nb
      have ml : ((List.range i).map fun k => V.ref (if k = i then b else ps k)) = (List.range i).map fun k => V.ref (ps k) := List.map_congr_left fun k hk => by rw [if_neg (by have := List.mem_range.mp hk; omega)]
      refine ⟨_, oL, by simp; omega, sUpd (sN ss nb) nL, fun k => if k = i then b else ps k, by rw [upd_same, List.range_succ, List.map_append, ml, List.map_cons, List.map_nil, if_pos rfl], fun k hk => ?_, fun k hk => ?_, fun j k hj hk e => ?_⟩
      · by_cases e : k = i
        · rw [if_pos e, upd_ne nbL, upd_same]; rfl
        · rw [if_neg e, upd_ne (B.f k (by omega)).2, upd_ne (hp k (by omega))]; exact B.r k (by omega)
      · by_cases e : k = i
        · rw [if_pos e]; exact ⟨none_of ss nb, nbL⟩
        · rw [if_neg e]; exact B.f k (by omega)
      · by_cases e1 : j = i
        · by_cases e2 : k = i
          · omega
          · rw [if_pos e1, if_neg e2] at e
            exact absurd e.symm (hp k (by omega))
        · by_cases e2 : k = i
          · rw [if_neg e1, if_pos e2] at e
            exact absurd e (hp j (by omega))
          · rw [if_neg e1, if_neg e2] at e
            exact B.i j k (by omega) (by omega) e
    · rintro H1 ⟨ss, ps, B⟩
      rw [hlx] at B
      refine ⟨_, rfl, pa, xs, rfl, seqT ss hs, ?_⟩
      refine ET.for_enT (K := K) (a := pa) (xs := xs) (fun i σ H' => ∃ o2 o3 o4 o5, σ = [some (.ref pa), some (.ref L), o2, o3, o4, o5] ∧ Same H H' ∧ Bk H H' L n ps (bk f i)) ⟨_, _, _, _, rfl, ss, B.o, fun k hk => B.r k hk, B.f, B.i⟩ (fun i σ H' _ ⟨_, _, _, _, _, s1, _⟩ => seqT s1 hs) ?_ ?_
      · rintro i x σ H2 T2 hx ⟨o2, o3, o4, o5, rfl, s1, B1⟩ nT
        have hi : i < n := by rw [← hlx]; exact (List.getElem?_eq_some_iff.mp hx).1
        refine ⟨T2, _, rfl, SqT.of upd_same, rfl, _, _, rfl, _, _, rfl, rfl, ?_⟩
        have s2 := sN s1 nT (o := .tup [.int (i : Nat), x])
        have B2 := B1.new nT (o := .tup [.int (i : Nat), x])
        generalize hH3 : upd H2 T2 (.tup [.int (i : Nat), x]) = H3 at s2 B2
        obtain ⟨y, ey, dy⟩ := hd.it i (d := .tuple ((f i).map .int)) (by simp [hi])
        obtain rfl : x = y := by
          have := atI_nat hx
          rw [ey] at this
          exact (Option.some.inj this).symm
        obtain ⟨pb, zs, rfl, hzs, dzs⟩ := dy.ts
        obtain rfl := dzs.ints
        refine ⟨_, rfl, pb, rfl, ⟨_, seqT s2 hzs⟩, ?_⟩
        refine for_tup (K := K) (a := pb) (xs := (f i).map V.int) (fun c σ H' => ∃ o5, σ = [some (.ref pa), some (.ref L), o2, some (.int (i : Nat)), some (.ref pb), o5] ∧ Same H H' ∧ Bk H H' L n ps (fun k => bk f i k ++ (if (k : Int) ∈ (f i).take c then [i] else []))) ⟨_, rfl, s2, by simpa using B2⟩ (fun c σ H' _ ⟨_, _, s3, _⟩ => seqT s3 hzs) ?_ ?_
        · rintro c z σ H4 hz4 ⟨o5, rfl, s3, B3⟩
          rw [List.getElem?_map] at hz4
          obtain ⟨t, et, rfl⟩ := Option.map_eq_some_iff.mp hz4
          have tm := List.mem_of_getElem? et
          obtain ⟨t0, t1⟩ := hf i hi t tm
          obtain ⟨m, rfl⟩ := Int.eq_ofNat_of_zero_le t0
          have hm : m < n := by omega
          have nt : (m : Int) ∉ (f i).take c := fun z => by
            obtain ⟨d, hd1, hd2⟩ := List.getElem_of_mem z
            rw [List.length_take] at hd1
            rw [List.getElem_take] at hd2
            have hc := (List.getElem?_eq_some_iff.mp et)
            obtain ⟨hc1, hc2⟩ := hc
            have := (List.getElem_inj (hnd i hi) (i := d) (j := c) (h₀ := by omega) (h₁ := hc1)).mp (hd2.trans hc2.symm)
            omega
          have eb : ((List.range n).map fun k => V.ref (ps k))[m]? = some (V.ref (ps m)) := by simp [hm]
          have hr := B3.r m hm
          rw [if_neg nt, List.append_nil] at hr
          refine ⟨_, rfl, _, rfl, L, _, _, _, rfl, rfl, SqL.of B3.o, atI_nat eb, .inl ⟨rfl, _, SqL.of hr⟩, _, rfl, ps m, _, _, rfl, rfl, hr, ?_, ?_⟩
          · have := bk_len f i m
            simp [nV]
            omega
          refine ⟨_, rfl, sUpd s3 (B3.f m hm).1, ?_⟩
          have ap := B3.app (c' := fun k => bk f i k ++ (if (k : Int) ∈ (f i).take (c + 1) then [i] else [])) hm fun k hk ne => by
            rw [List.take_succ, et]
            have : ((k : Int) ∈ (f i).take c ++ (some (m : Int)).toList) ↔ (k : Int) ∈ (f i).take c := by
              rw [List.mem_append]
              exact ⟨fun z => z.elim id fun z => absurd (List.mem_singleton.mp z) (by omega), .inl⟩
            simp only [this]
          rw [if_pos (show (m : Int) ∈ (f i).take (c + 1) by rw [List.take_succ, et]; simp)] at ap
          have e2 : nV (bk f i m ++ [i]) = nV (bk f i m) ++ [V.int (i : Nat)] := by simp [nV]
          rw [e2] at ap
          exact ap
        · rintro σ H4 ⟨o5, rfl, s3, B3⟩
          refine ⟨_, _, _, _, rfl, s3, ?_⟩
          have : bk f (i + 1) = fun k => bk f i k ++ (if (k : Int) ∈ (f i).take ((f i).map V.int).length then [i] else []) := funext fun k => by rw [bk_step, List.length_map, List.take_length]
          rw [this]
          exact B3
      · rintro σ H2 ⟨o2, o3, o4, o5, rfl, s1, B1⟩
        rw [hlx] at B1
        exact ⟨_, rfl, q L ps H2 s1 nL B1⟩
end

/-! ### the masks -/
theorem folL_other {D : PyData} {ix : Int} {nm : Str} (e : nmOf D = nm) (h1 : nm ≠ "jump") (h2 : nm ≠ "branch") (h3 : inV (.str nm) lvs = false) : folL D ix = [ix + 1] := by
  unfold folL
  rw [e, if_neg h1, if_neg h2, h3]
  rfl
theorem folL_leave {D : PyData} {ix : Int} {nm : Str} (e : nmOf D = nm) (h1 : nm ≠ "jump") (h2 : nm ≠ "branch") (h3 : inV (.str nm) lvs = true) : folL D ix = [] := by
  unfold folL
  rw [e, if_neg h1, if_neg h2, h3]
  rfl
theorem folL_D (x : In) (ix t : Int) : t ∈ folL x.D ix ↔ t ∈ x.fol ix := by
  cases x with
  | un k d x p => rw [folL_other (nm := nmU k) rfl (In.nmU_c k).2.2.1 (In.nmU_c k).2.2.2.1 (In.nmU_c k).2.2.2.2.2.2]; rfl
  | cm k d x y => rw [folL_other (nm := nmC k) rfl (In.nmC_c k).2.2.1 (In.nmC_c k).2.2.2.1 (In.nmC_c k).2.2.2.2.2.2]; rfl
  | bi k d x y p => rw [folL_other (nm := nmB k.val) rfl (In.nmB_c k).2.2.1 (In.nmB_c k).2.2.2.1 (In.nmB_c k).2.2.2.2.2.2]; rfl
  | mv d x => rw [folL_other (nm := "move") rfl (by decide +kernel) (by decide +kernel) (by decide +kernel)]; rfl
  | ck x lo hi p => rw [folL_other (nm := "check") rfl (by decide +kernel) (by decide +kernel) (by decide +kernel)]; rfl
  | pu x => rw [folL_other (nm := "put") rfl (by decide +kernel) (by decide +kernel) (by decide +kernel)]; rfl
  | ld d h c n e => rw [folL_other (nm := "load") rfl (by decide +kernel) (by decide +kernel) (by decide +kernel)]; rfl
  | st h c n e x => rw [folL_other (nm := "store") rfl (by decide +kernel) (by decide +kernel) (by decide +kernel)]; rfl
  | ca o h xs rs p => rw [folL_other (nm := "call") rfl (by decide +kernel) (by decide +kernel) (by decide +kernel)]; rfl
  | ge d p => rw [folL_other (nm := "get") rfl (by decide +kernel) (by decide +kernel) (by decide +kernel)]; rfl
  | ti => rw [folL_other (nm := "tick") rfl (by decide +kernel) (by decide +kernel) (by decide +kernel)]; rfl
  | ra n p => rw [folL_leave (nm := "raise") rfl (by decide +kernel) (by decide +kernel) (by decide +kernel)]; rfl
  | ag x y => rw [folL_leave (nm := "again") rfl (by decide +kernel) (by decide +kernel) (by decide +kernel)]; rfl
  | re xs => rw [folL_leave (nm := "return") rfl (by decide +kernel) (by decide +kernel) (by decide +kernel)]; rfl
  | jm u =>
    have : folL (In.jm u).D ix = [u] := by unfold folL; rw [show nmOf (In.jm u).D = "jump" from rfl, if_pos rfl]; rfl
    rw [this]; rfl
  | br x u =>
    have : folL (In.br x u).D ix = [u, ix + 1] := by unfold folL; rw [show nmOf (In.br x u).D = "branch" from rfl, if_neg (by decide +kernel), if_pos rfl]; rfl
    rw [this]
    show t ∈ [u, ix + 1] ↔ t ∈ [ix + 1, u]
    simp [or_comm]
theorem wayL_D (x : In) (rs : List (List Int)) (ix t : Int) : t ∈ wayL x.D rs ix ↔ t ∈ wyI x ix (rs.find? (inR ix)) := by
  unfold wayL wyI
  rw [List.mem_append, List.mem_append, folL_D, show nmOf x.D = x.nm from rfl, x.canOk]
  unfold entL enI
  cases rs.find? (inR ix) <;> rfl
theorem insOk (x : In) : InsOk x.D := by
  refine ⟨x.nm, x.ds, rfl, ?_, ?_⟩
  · intro h
    cases x with
    | jm u => exact ⟨u, rfl⟩
    | un k d x p => exact absurd h (In.nmU_c k).2.2.1
    | cm k d x y => exact absurd h (In.nmC_c k).2.2.1
    | bi k d x y p => exact absurd h (In.nmB_c k).2.2.1
    | _ => exact absurd h (by dsimp only [In.nm]; decide +kernel)
  · intro h
    cases x with
    | br x u => exact ⟨u, rfl⟩
    | un k d x p => exact absurd h (In.nmU_c k).2.2.2.1
    | cm k d x y => exact absurd h (In.nmC_c k).2.2.2.1
    | bi k d x y p => exact absurd h (In.nmB_c k).2.2.2.1
    | _ => exact absurd h (by dsimp only [In.nm]; decide +kernel)
theorem UnOk.wel {g : Int} {xs : List In} {rs : List (List Int)} (h : UnOk g xs rs) : Wel xs rs g.toNat where
  w i x e t ht := by
    rcases List.mem_append.mp ht with z | z
    · exact (h.x i x e).f t z
    · unfold enI at z
      split at z
      · unfold reI at z
        cases er : rs.find? (inR (i : Int)) with
        | none => rw [er] at z; exact absurd z (by simp)
        | some r =>
          rw [er] at z
          have R := h.r r (List.mem_of_find?_eq_some er)
          obtain rfl := List.mem_singleton.mp z
          have a := R.a
          have e := R.e
          exact ⟨by omega, e.2⟩
      · exact absurd z (by simp)
  r i x e d hd := by
    unfold In.rdI at hd
    obtain ⟨g1, m1, rfl⟩ := List.mem_map.mp hd
    obtain ⟨m2, m3⟩ := List.mem_filter.mp m1
    have m4 := of_decide_eq_true m3
    rcases (h.x i x e).o g1 m2 with z | z
    · rw [z] at m4
      exact absurd m4 (by decide +kernel)
    · exact ⟨z.2.1, by omega⟩
def spMasks (K : PySem.W.Frag) (C : Addr) : Sp := fun vs H Q _ => ∃ (p dx : Addr) (v0 v1 v2 v3 v4 : V) (ca ra : Addr) (us ws : List V) (g : Int) (xs : List In) (rs : List (List Int)), vs = [.ref p] ∧ H p = some (.ins C dx (unF v0 v1 v2 v3 v4 (.ref ca) (.ref ra))) ∧ SqT K H ca us ∧ DTs K H us (xs.map In.D) ∧ SqT K H ra ws ∧ DTs K H ws (rs.map regD) ∧ UnOk g xs rs ∧
  ∀ (L : Addr) (ms : List Nat) (H' : Hp), H L = none → H' L = some (.lst (bV ms)) → Liv xs rs ms → Same H H' → Q (.ref L) H'
theorem canon_nd (l : List Int) : (canon l).Nodup := canon_sorted.imp fun h => by omega
structure LS (K : PySem.W.Frag) (H0 Hb H' : Hp) (L1 L2 N Pn : Addr) (ts : List V) (ps : Nat → Addr) (f : Nat → List Int) (n : Nat) (fr : Nat → PyData) (ms qs : List Nat) : Prop where
  nn : H' N = some (.lst (bV ms))
  q : H' Pn = some (.lst (nV qs))
  t : H' L1 = some (.lst ts)
  d : TD K H' ts n fr
  b : Bk Hb H' L2 n ps (bk f n)
  s : Same H0 H'
/-- the lists lie apart -/
structure Ap (H0 : Hp) (L1 L2 N Pn : Addr) (ps : Nat → Addr) (n : Nat) : Prop where
  a : N ≠ Pn
  b : L1 ≠ N
  c : L1 ≠ Pn
  d : L2 ≠ N
  e : L2 ≠ Pn
  f : ∀ k, k < n → ps k ≠ N ∧ ps k ≠ Pn
  g : H0 N = none
  h : H0 Pn = none
theorem LS.putN {K : PySem.W.Frag} {H0 Hb H' : Hp} {L1 L2 N Pn : Addr} {ts : List V} {ps : Nat → Addr} {f : Nat → List Int} {n : Nat} {fr : Nat → PyData} {ms qs ms' : List Nat} (h : LS K H0 Hb H' L1 L2 N Pn ts ps f n fr ms qs) (A : Ap H0 L1 L2 N Pn ps n) : LS K H0 Hb (upd H' N (.lst (bV ms'))) L1 L2 N Pn ts ps f n fr ms' qs :=
  ⟨upd_same, by rw [upd_ne A.a.symm]; exact h.q, by rw [upd_ne A.b]; exact h.t, h.d.keep (KT.put h.nn), h.b.put A.d fun k hk => (A.f k hk).1, sUpd h.s A.g⟩
theorem LS.putP {K : PySem.W.Frag} {H0 Hb H' : Hp} {L1 L2 N Pn : Addr} {ts : List V} {ps : Nat → Addr} {f : Nat → List Int} {n : Nat} {fr : Nat → PyData} {ms qs qs' : List Nat} (h : LS K H0 Hb H' L1 L2 N Pn ts ps f n fr ms qs) (A : Ap H0 L1 L2 N Pn ps n) : LS K H0 Hb (upd H' Pn (.lst (nV qs'))) L1 L2 N Pn ts ps f n fr ms qs' :=
  ⟨by rw [upd_ne A.a]; exact h.nn, upd_same, by rw [upd_ne A.c]; exact h.t, h.d.keep (KT.put h.q), h.b.put A.e fun k hk => (A.f k hk).2, sUpd h.s A.h⟩
theorem LS.same {K : PySem.W.Frag} {H0 Hb H' H'' : Hp} {L1 L2 N Pn : Addr} {ts : List V} {ps : Nat → Addr} {f : Nat → List Int} {n : Nat} {fr : Nat → PyData} {ms qs : List Nat} (h : LS K H0 Hb H' L1 L2 N Pn ts ps f n fr ms qs) (s : Same H' H'') : LS K H0 Hb H'' L1 L2 N Pn ts ps f n fr ms qs :=
  ⟨s _ _ h.nn, s _ _ h.q, s _ _ h.t, h.d.keep (KT.same s), h.b.same s, sTr h.s s⟩
theorem rep_bV (n : Nat) : (List.replicate n [V.int 0]).flatten = bV (List.replicate n 0) := by
  induction n with
  | zero => rfl
  | succ n ih => rw [List.replicate_succ, List.flatten_cons, ih, List.replicate_succ]; rfl
theorem rg_nV (n : Nat) : rgV 0 (n : Int) = nV (List.range n) := by
  unfold rgV nV
  rw [show ((n : Int) - 0).toNat = n by omega, List.map_inj_left]
  intro k _
  simp
section
variable {P : Program} {w : World} {K : PySem.W.Frag} {mg : Str → Option Value} {base : Heap} {a : Ad}
theorem ok_live_masks (T : Txt K mg a) : FnOk P w K mg base CX0 4 a.f_live_masks a.d_live_masks ["unit"] (spMasks K a.C_Unit) := by
  have G_taken_regions : FnOk P w K mg base CX0 2 _ _ _ _ := ok_taken_regions T
  have G_edges : FnOk P w K mg base CX0 3 _ _ _ _ := ok_edges T
  have G_ways_back : FnOk P w K mg base CX0 1 _ _ _ _ := ok_ways_back T
  have G_needed_at : FnOk P w K mg base CX0 3 _ _ _ _ := ok_needed_at T
  refine T.F_live_masks.ok sc_live_masks (fun vs H Q E h => ?_) (fun cdv A outer s H vs Q E hr h => ?_)
  · obtain ⟨_, _, _, _, _, _, _, _, _, _, _, _, _, _, rfl, _⟩ := h; rfl
  · obtain ⟨p, dx, v0, v1, v2, v3, v4, ca, ra, us, ws, g, xs, rs, rfl, hp, hca, hcs, hra, hws, U, q⟩ := h
    have hz := sizeLine_eq
    have n9 := U.n9
    have n4 := U.n4
    have hul : us.length = xs.length := by rw [hcs.len]; simp
    have hok : ∀ r ∈ rs, RegOk xs.length r := fun r hr => by
      have R := U.r r hr
      have r1 := R.a
      have r2 := R.b
      exact ⟨R.l, by omega, by omega, by omega, by omega⟩
    refine ⟨_, (pss_cons (ps_set (i := 1) sc_live_masks.nd rfl (Or.inl rfl) (pe_call G_taken_regions (hr.mono (by decide)) rfl T.g_taken_regions T.k_taken_regions T.bd_taken_regions .nil pass0 (pa_cons (pv 0) pa_nil)))
      (pss_cons (ps_set (i := 2) sc_live_masks.nd rfl (Or.inl rfl) (pe_call G_ways_back (hr.mono (by decide)) rfl T.g_ways_back T.k_ways_back T.bd_ways_back .nil pass0 (pa_cons (pe_call G_edges (hr.mono (by decide)) rfl T.g_edges T.k_edges T.bd_edges .nil pass0 (pa_cons (pv 0) pa_nil)) pa_nil)))
      (pss_cons (ps_set (i := 3) sc_live_masks.nd rfl (Or.inl rfl) (pe_op op_rep (pe_lst (pa_cons pe_int pa_nil)) (pe_callB call_len_seq (by rfl) T.b_len (by decide +kernel) (pa_cons (pe_fld (pv 0) rfl) pa_nil))))
      (pss_cons (ps_set (i := 4) sc_live_masks.nd rfl (Or.inl rfl) (pe_listRg rfl (by rfl) T.b_list (prg_1 (by rfl) T.b_range (pe_callB call_len_seq (by rfl) T.b_len (by decide +kernel) (pa_cons (pe_fld (pv 0) rfl) pa_nil)))))
      (pss_cons (ps_while PassesOwn.never (pt_truth (pv 4) (by intro _; rfl)) (pss_cons (ps_set (i := 5) sc_live_masks.nd rfl (Or.inl rfl) (pe_bm0 PySem.F.plainAttrs_list PySem.F.slot_list_pop PySem.F.type_list_pop mt_pop (pv 4)))
      (pss_cons (ps_set (i := 6) sc_live_masks.nd rfl (Or.inl rfl) (pe_call G_needed_at (hr.mono (by decide)) rfl T.g__needed_at T.k__needed_at T.bd__needed_at .nil pass0 (pa_cons (pe_ix ix_tup (pe_fld (pv 0) rfl) (pv 5) (fun _ _ => rfl)) (pa_cons (pv 5) (pa_cons (pe_ix ix_list (pv 1) (pv 5) (fun _ _ => rfl)) (pa_cons (pv 3) pa_nil))))))
      (pss_one (ps_if (pt_cmpR op_ne (pv 6) (pe_ix ix_list (pv 3) (pv 5) (fun _ _ => rfl)) (nomark _)) (pss_cons (ps_asg (pv 6) (pg_sub (pv 3) (pv 5) set_list))
      (pss_one (ps_expr (pe_bm PySem.F.plainAttrs_list PySem.F.slot_list_extend PySem.F.type_list_extend mt_extend (pv 4) (pa_cons (pe_ix ix_list (pv 2) (pv 5) (fun _ _ => rfl)) pa_nil))))) pss_nil)))))
      (pss_one (ps_ret (pv 3)))))))), ?_⟩
    refine ⟨_, rfl, p, dx, v0, v1, v2, v3, v4, ca, ra, us, ws, rs, xs.length, rfl, hp, hca, hul, by omega, hra, hws, hok, fun L1 ts H1 nL1 hL1 td s1 => ?_⟩
    refine ⟨_, rfl, p, dx, v0, v1, v2, v3, v4, ca, ra, us, ws, xs.map In.D, rs, rfl, s1 _ _ hp, seqT s1 hca, hcs.keep (KT.same s1), fun D hD => ?_, by simp; omega, seqT s1 hra, hws.keep (KT.same s1), by simpa using hok, fun u H2 du s2 => ?_⟩
    · obtain ⟨x, _, rfl⟩ := List.mem_map.mp hD
      exact insOk x
    have ei : ∀ i x, xs[i]? = some x → ∀ t, t ∈ canon (wayL ((xs.map In.D).getD i .none) rs (i : Int)) ↔ t ∈ wyI x i (reI rs i) := fun i x e t => by
      have : (xs.map In.D).getD i .none = x.D := by rw [List.getD_eq_getElem?_getD, List.getElem?_map, e]; rfl
      rw [mem_canon, this, wayL_D]
      rfl
    have gi : ∀ i, i < xs.length → ∃ x, xs[i]? = some x := fun i hi => ⟨_, List.getElem?_eq_getElem hi⟩
    have W := U.wel
    rw [List.length_map] at du
    refine ⟨u, fun i => canon (wayL ((xs.map In.D).getD i .none) rs (i : Int)), xs.length, rfl, du, fun i hi t ht => ?_, fun i _ => canon_nd _, by omega, fun L2 ps H3 s3 nL2 B => ?_⟩
    · obtain ⟨x, e⟩ := gi i hi
      exact W.w i x e t ((ei i x e t).mp ht)
    have s12 := sTr s1 s2
    have s13 := sTr s12 s3
    refine ⟨(by show 1 ≤ sizeLine; decide), fun l1 m1 => ⟨_, rfl, p, a.C_Unit, dx, _, _, rfl, (sN s13 m1) _ _ hp, T.cl_Unit, T.n_Unit_code, un_cd _ _ _ _ _ _ _, ca, _, rfl, .inr (seqT (sN s13 m1) hca), _, _, _, rfl, rfl, upd_same, by omega, by omega, (by simp; omega), fun N nN => ?_⟩⟩
    have s4 := sN s13 m1 (o := .lst [V.int 0])
    have nN0 := none_of s4 nN
    have s5 := sN s4 nN (o := .lst ((List.replicate ((us.length : Int)).toNat [V.int 0]).flatten))
    have nN3 := none_of (sN (Same.refl H3) m1 (o := .lst [V.int 0])) nN
    refine ⟨_, rfl, p, a.C_Unit, dx, _, _, rfl, s5 _ _ hp, T.cl_Unit, T.n_Unit_code, un_cd _ _ _ _ _ _ _, ca, _, rfl, .inr (seqT s5 hca), _, rfl, ⟨by omega, by omega, by omega, by omega, by omega⟩, fun Pn nP => ?_⟩
    have sA := sN (Same.refl H3) m1 (o := .lst [V.int 0])
    have sB := sN sA nN (o := .lst ((List.replicate ((us.length : Int)).toNat [V.int 0]).flatten))
    have nP3 := none_of sB nP
    have nP0 := none_of s5 nP
    have A : Ap H L1 L2 N Pn ps xs.length := by
      have hL1' : H3 L1 = some (.lst ts) := s3 _ _ (s2 _ _ hL1)
      exact ⟨ne_of_none upd_same nP, ne_of_none hL1' nN3, ne_of_none hL1' nP3, ne_of_none B.o nN3, ne_of_none B.o nP3, fun k hk => ⟨ne_of_none (B.r k hk) nN3, ne_of_none (B.r k hk) nP3⟩, nN0, nP0⟩
    have S0 : LS K H H2 (upd (upd (upd H3 l1 (.lst [V.int 0])) N (.lst ((List.replicate ((us.length : Int)).toNat [V.int 0]).flatten))) Pn (.lst (rgV 0 (us.length : Int)))) L1 L2 N Pn ts ps (fun i => canon (wayL ((xs.map In.D).getD i .none) rs (i : Int))) xs.length (fun k => findR rs (k : Int)) (List.replicate xs.length 0) (List.range xs.length) := by
      have sC := sN sB nP (o := .lst (rgV 0 (us.length : Int)))
      refine ⟨?_, ?_, sC _ _ (s3 _ _ (s2 _ _ hL1)), td.keep (KT.same (sTr s2 (sTr s3 sC))), B.same sC, sN s5 nP⟩
      · rw [upd_ne A.a, upd_same, Int.toNat_natCast, hul, rep_bV]
      · rw [upd_same, hul, rg_nV]
    clear hL1 td du nL2 nN nP m1 sA sB s4 s5 nN0 nN3 nP3 nP0
    refine ⟨fun m σ H' => ∃ (ms qs : List Nat) (o5 o6 : Option V), m = unb xs.length g.toNat ms * (xs.length + 1) + qs.length ∧ σ = [some (.ref p), some (.ref L1), some (.ref L2), some (.ref N), some (.ref Pn), o5, o6] ∧ LS K H H2 H' L1 L2 N Pn ts ps (fun i => canon (wayL ((xs.map In.D).getD i .none) rs (i : Int))) xs.length (fun k => findR rs (k : Int)) ms qs ∧ WL xs rs g.toNat ms qs, ⟨_, _, _, _, _, rfl, rfl, S0, WL.start⟩, ?_⟩
    clear S0
    rintro m σ H4 ⟨ms, qs, o5, o6, rfl, rfl, S, Wl⟩
    refine ⟨_, rfl, !(nV qs).isEmpty, .inl ⟨_, SqL.of S.q, rfl⟩, ?_⟩
    rcases List.eq_nil_or_concat qs with rfl | ⟨rs', i, e0⟩
    · refine iteF ⟨_, rfl, q N ms H4 A.g S.nn Wl.fin S.s⟩
    rw [List.concat_eq_append] at e0
    subst e0
    have hi : i < xs.length := Wl.pl i (by simp)
    obtain ⟨x, ex⟩ := gi i hi
    rw [show (!(nV (rs' ++ [i])).isEmpty) = true by simp [nV]]
    refine iteT ⟨_, fun _ _ h => h, ?_⟩
    have e1 : nV (rs' ++ [i]) = nV rs' ++ [V.int (i : Int)] := by simp [nV]
    have hq := S.q
    rw [e1] at hq
    refine ⟨_, rfl, .inl ⟨rfl, _, SqL.of hq⟩, Pn, _, V.int (i : Int), rfl, rfl, hq, by simp, ?_⟩
    have S1 := S.putP A (qs' := rs')
    rw [show (nV rs' ++ [V.int (i : Int)]).dropLast = nV rs' by simp]
    generalize hH5 : upd H4 Pn (.lst (nV rs')) = H5 at S1
    refine ⟨_, rfl, p, a.C_Unit, dx, _, _, rfl, S1.s _ _ hp, T.cl_Unit, T.n_Unit_code, un_cd _ _ _ _ _ _ _, ?_⟩
    obtain ⟨v, ev, dv⟩ := (hcs.keep (KT.same S1.s)).it i (d := x.D) (by simp [ex])
    obtain ⟨vr, evr, dvr⟩ := S1.d.2 i hi
    have hml : ms.length = xs.length := Wl.len
    have Ix := U.x i x ex
    refine ⟨_, rfl, _, _, _, _, rfl, rfl, seqT S1.s hca, ev, _, rfl, _, rfl, _, rfl, _, _, _, _, rfl, rfl, SqL.of S1.t, atI_nat evr, _, rfl, v, vr, x, i, reI rs i, N, ms, rfl, dv, ?_, S1.nn, ?_, ?_, ?_, ?_, Ix.l, fun m H6 hm s6 => ?_⟩
    · dsimp only at dvr
      unfold findR at dvr
      unfold reI
      cases e : rs.find? (inR (i : Int)) with
      | none => rw [e] at dvr; exact dvr
      | some r => rw [e] at dvr; exact dvr
    · intro t ht
      rw [hml]
      exact W.w i x ex t ht
    · intro r er
      have R := U.r r (List.mem_of_find?_eq_some er)
      refine ⟨R.l, fun z hz => ?_⟩
      obtain ⟨r0, r1, r2, r3, r4, e⟩ : ∃ r0 r1 r2 r3 r4, r = [r0, r1, r2, r3, r4] := by
        rcases r with _ | ⟨r0, _ | ⟨r1, _ | ⟨r2, _ | ⟨r3, _ | ⟨r4, _ | ⟨r5, r6⟩⟩⟩⟩⟩⟩
        all_goals first | exact ⟨_, _, _, _, _, rfl⟩ | (have := R.l; simp at this)
      subst e
      have a1 : 0 ≤ r0 ∧ r0 < r1 := R.a
      have a2 : r1 < xs.length := R.b
      have a3 : r1 ≤ r2 ∧ r2 < xs.length := R.e
      have a4 : 0 ≤ r3 ∧ r3 < g := R.f
      have a5 : 0 ≤ r4 ∧ r4 < g := R.s
      have g9 := U.g9
      simp only [List.mem_cons, List.not_mem_nil, or_false] at hz
      omega
    · intro z hz
      have := Ix.w z hz
      have g9 := U.g9
      unfold In.rg at this
      omega
    · intro z hz
      have := W.r i x ex z hz
      have g9 := U.g9
      omega
    have S2 := S1.same s6
    have eb : (bV ms)[i]? = some (V.int ((ms.getD i 0 : Nat) : Int)) := by
      unfold bV
      rw [List.getElem?_map]
      simp [hml, hi]
    have hm : ∀ k, m.testBit k = stB x i (reI rs i) (bF ms) k := hm
    refine ⟨_, rfl, _, rfl, _, rfl, _, _, _, _, rfl, rfl, SqL.of S2.nn, atI_nat eb, rfl, _, rfl, ite3 (fun c => ?_) (fun c => ?_)⟩
    · have ne : m ≠ ms.getD i 0 := fun e => by rw [e] at c; simp at c
      refine ⟨_, rfl, _, rfl, _, rfl, _, _, _, _, rfl, rfl, S2.nn, ixN_nat (by simp [bV, hml, hi]), ?_⟩
      have e2 : (bV ms).set i (V.int (m : Int)) = bV (ms.set i m) := by
        unfold bV
        rw [List.map_set]
      rw [e2]
      have S3 := S2.putN A (ms' := ms.set i m)
      generalize upd H6 N (.lst (bV (ms.set i m))) = H7 at S3
      have eb2 : ((List.range xs.length).map fun k => V.ref (ps k))[i]? = some (V.ref (ps i)) := by simp [hi]
      have hx := WL.next W Wl ex hm ne (bs := bk (fun i => canon (wayL ((xs.map In.D).getD i .none) rs (i : Int))) xs.length i) (fun j y ey => ?_) (fun j hj => ?_) (bk_len _ _ _)
      · have gb : xs.length * g.toNat * (xs.length + 1) + xs.length ≤ 303100 := by
          have g9 := U.g9
          have h1 : xs.length * g.toNat ≤ 100 * 30 := Nat.mul_le_mul (by omega) (by omega)
          have h2 : xs.length * g.toNat * (xs.length + 1) ≤ 100 * 30 * 101 := Nat.mul_le_mul h1 (by omega)
          omega
        have hl := hx.1.ms
        refine ⟨_, rfl, .inl ⟨rfl, _, SqL.of S3.q⟩, _, rfl, _, rfl, _, _, _, _, rfl, rfl, SqL.of S3.b.o, atI_nat eb2, Pn, ps i, _, _, rfl, rfl, S3.q, S3.b.r i hi, ?_, ?_⟩
        · rw [List.length_append] at hl
          simp only [nV, List.length_map]
          omega
        · have S4 := S3.putP A (qs' := rs' ++ bk (fun i => canon (wayL ((xs.map In.D).getD i .none) rs (i : Int))) xs.length i)
          have e3 : nV (rs' ++ bk (fun i => canon (wayL ((xs.map In.D).getD i .none) rs (i : Int))) xs.length i) = nV rs' ++ nV (bk (fun i => canon (wayL ((xs.map In.D).getD i .none) rs (i : Int))) xs.length i) := by simp [nV]
          rw [e3] at S4
          exact ⟨_, hx.2, _, _, _, _, rfl, rfl, S4, hx.1⟩
      · unfold bk
        rw [List.mem_filter, List.mem_range, decide_eq_true_eq, ei j y ey]
        exact ⟨fun h => h.2, fun h => ⟨(List.getElem?_eq_some_iff.mp ey).1, h⟩⟩
      · unfold bk at hj
        exact List.mem_range.mp (List.mem_filter.mp hj).1
    · have e : m = ms.getD i 0 := by
        simp at c
        have : V.int (m : Int) = V.int ((ms.getD i 0 : Nat) : Int) := by simpa using c
        injection this with this
        omega
      exact ⟨_, (by simp), _, _, _, _, rfl, rfl, S2, Wl.skip ex hm e⟩
end

/-! ### the law's own reading of instructions -/
def la : List V := [.str "move", .str "neg", .str "abs"]
def lb : List V := [.str "add", .str "sub", .str "mul", .str "div", .str "mod", .str "rem", .str "less", .str "equal"]
def lc : List V := [.str "check", .str "branch", .str "put"]
def ld : List V := [.str "move", .str "neg", .str "abs", .str "add", .str "sub", .str "mul", .str "div", .str "mod", .str "rem", .str "less", .str "equal"]
def le' : List V := [.str "load", .str "get"]
structure LOps (nm : Str) (D : List PyData) (gs : List Op) : Prop where
  a : inV (.str nm) la = true → ∃ o, D[2]? = some (opD o) ∧ gs = [o]
  b : inV (.str nm) lb = true → ∃ o1 o2, D[2]? = some (opD o1) ∧ D[3]? = some (opD o2) ∧ gs = [o1, o2]
  c : inV (.str nm) lc = true → ∃ o, D[1]? = some (opD o) ∧ gs = [o]
  d : nm = "load" → ∃ o, D[5]? = some (opD o) ∧ gs = [o]
  e : nm = "store" → ∃ o1 o2, D[4]? = some (opD o1) ∧ D[5]? = some (opD o2) ∧ gs = [o1, o2]
  f : nm = "call" → D[3]? = some (.tuple (gs.map opD))
  g : nm = "return" → D[1]? = some (.tuple (gs.map opD))
  h : nm = "again" → ∃ o1 o2, D[1]? = some (opD o1) ∧ D[2]? = some (opD o2) ∧ gs = [o1, o2]
  i : inV (.str nm) la = false → inV (.str nm) lb = false → inV (.str nm) lc = false → nm ≠ "load" → nm ≠ "store" → nm ≠ "call" → nm ≠ "return" → nm ≠ "again" → gs = []
structure LWr (nm : Str) (D : List PyData) (ws : List Int) : Prop where
  a : nm = "call" → D[4]? = some (.tuple (ws.map .int))
  b : inV (.str nm) ld = true → ∃ d, D[1]? = some (.int d) ∧ ws = [d]
  c : inV (.str nm) le' = true → ∃ d, D[1]? = some (.int d) ∧ ws = [d]
  d : nm ≠ "call" → inV (.str nm) ld = false → inV (.str nm) le' = false → ws = []
structure LOn (nm : Str) (D : List PyData) (ix : Int) (ts : List Int) : Prop where
  a : nm = "jump" → ∃ t, D[1]? = some (.int t) ∧ ts = [t]
  b : nm = "branch" → ∃ t, D[2]? = some (.int t) ∧ ts = [ix + 1, t]
  c : inV (.str nm) lvs = true → ts = []
  d : nm ≠ "jump" → nm ≠ "branch" → inV (.str nm) lvs = false → ts = [ix + 1]
theorem in_c (l : List V) (b c : Bool) (h : b = c) : b = c := h
theorem lOps (x : In) : LOps x.nm (.str x.nm :: x.ds) x.ops := by
  cases x with
  | un k d x p =>
    refine ⟨fun h => ⟨x, rfl, rfl⟩, fun h => absurd h ?_, fun h => absurd h ?_, fun h => absurd h ?_, fun h => absurd h ?_, fun h => absurd h ?_, fun h => absurd h ?_, fun h => absurd h ?_, fun h => absurd h ?_⟩ <;> (clear h; (try clear h0); dsimp only [In.nm]; revert k; decide +kernel)
  | cm k d x y =>
    refine ⟨fun h => absurd h ?_, fun h => ⟨x, y, rfl, rfl, rfl⟩, fun h => absurd h ?_, fun h => absurd h ?_, fun h => absurd h ?_, fun h => absurd h ?_, fun h => absurd h ?_, fun h => absurd h ?_, fun h0 h => absurd h ?_⟩ <;> (clear h; (try clear h0); dsimp only [In.nm]; revert k; decide +kernel)
  | bi k d x y p =>
    refine ⟨fun h => absurd h ?_, fun h => ⟨x, y, rfl, rfl, rfl⟩, fun h => absurd h ?_, fun h => absurd h ?_, fun h => absurd h ?_, fun h => absurd h ?_, fun h => absurd h ?_, fun h => absurd h ?_, fun h0 h => absurd h ?_⟩ <;> (clear h; (try clear h0); dsimp only [In.nm]; revert k; decide +kernel)
  | mv d x => exact ⟨fun h => ⟨x, rfl, rfl⟩, fun h => absurd h (by dsimp only [In.nm]; decide +kernel), fun h => absurd h (by dsimp only [In.nm]; decide +kernel), fun h => absurd h (by dsimp only [In.nm]; decide +kernel), fun h => absurd h (by dsimp only [In.nm]; decide +kernel), fun h => absurd h (by dsimp only [In.nm]; decide +kernel), fun h => absurd h (by dsimp only [In.nm]; decide +kernel), fun h => absurd h (by dsimp only [In.nm]; decide +kernel), fun h => absurd h (by dsimp only [In.nm]; decide +kernel)⟩
  | ck x lo hi p => exact ⟨fun h => absurd h (by dsimp only [In.nm]; decide +kernel), fun h => absurd h (by dsimp only [In.nm]; decide +kernel), fun h => ⟨x, rfl, rfl⟩, fun h => absurd h (by dsimp only [In.nm]; decide +kernel), fun h => absurd h (by dsimp only [In.nm]; decide +kernel), fun h => absurd h (by dsimp only [In.nm]; decide +kernel), fun h => absurd h (by dsimp only [In.nm]; decide +kernel), fun h => absurd h (by dsimp only [In.nm]; decide +kernel), fun _ _ h => absurd h (by dsimp only [In.nm]; decide +kernel)⟩
  | pu x => exact ⟨fun h => absurd h (by dsimp only [In.nm]; decide +kernel), fun h => absurd h (by dsimp only [In.nm]; decide +kernel), fun h => ⟨x, rfl, rfl⟩, fun h => absurd h (by dsimp only [In.nm]; decide +kernel), fun h => absurd h (by dsimp only [In.nm]; decide +kernel), fun h => absurd h (by dsimp only [In.nm]; decide +kernel), fun h => absurd h (by dsimp only [In.nm]; decide +kernel), fun h => absurd h (by dsimp only [In.nm]; decide +kernel), fun _ _ h => absurd h (by dsimp only [In.nm]; decide +kernel)⟩
  | br x t => exact ⟨fun h => absurd h (by dsimp only [In.nm]; decide +kernel), fun h => absurd h (by dsimp only [In.nm]; decide +kernel), fun h => ⟨x, rfl, rfl⟩, fun h => absurd h (by dsimp only [In.nm]; decide +kernel), fun h => absurd h (by dsimp only [In.nm]; decide +kernel), fun h => absurd h (by dsimp only [In.nm]; decide +kernel), fun h => absurd h (by dsimp only [In.nm]; decide +kernel), fun h => absurd h (by dsimp only [In.nm]; decide +kernel), fun _ _ h => absurd h (by dsimp only [In.nm]; decide +kernel)⟩
  | ld d h' c n e => exact ⟨fun h => absurd h (by dsimp only [In.nm]; decide +kernel), fun h => absurd h (by dsimp only [In.nm]; decide +kernel), fun h => absurd h (by dsimp only [In.nm]; decide +kernel), fun h => ⟨e, rfl, rfl⟩, fun h => absurd h (by dsimp only [In.nm]; decide +kernel), fun h => absurd h (by dsimp only [In.nm]; decide +kernel), fun h => absurd h (by dsimp only [In.nm]; decide +kernel), fun h => absurd h (by dsimp only [In.nm]; decide +kernel), fun _ _ _ h => absurd (by dsimp only [In.nm]) h⟩
  | st h' c n e x => exact ⟨fun h => absurd h (by dsimp only [In.nm]; decide +kernel), fun h => absurd h (by dsimp only [In.nm]; decide +kernel), fun h => absurd h (by dsimp only [In.nm]; decide +kernel), fun h => absurd h (by dsimp only [In.nm]; decide +kernel), fun h => ⟨e, x, rfl, rfl, rfl⟩, fun h => absurd h (by dsimp only [In.nm]; decide +kernel), fun h => absurd h (by dsimp only [In.nm]; decide +kernel), fun h => absurd h (by dsimp only [In.nm]; decide +kernel), fun _ _ _ _ h => absurd (by dsimp only [In.nm]) h⟩
  | ca o h' xs rs p => exact ⟨fun h => absurd h (by dsimp only [In.nm]; decide +kernel), fun h => absurd h (by dsimp only [In.nm]; decide +kernel), fun h => absurd h (by dsimp only [In.nm]; decide +kernel), fun h => absurd h (by dsimp only [In.nm]; decide +kernel), fun h => absurd h (by dsimp only [In.nm]; decide +kernel), fun h => rfl, fun h => absurd h (by dsimp only [In.nm]; decide +kernel), fun h => absurd h (by dsimp only [In.nm]; decide +kernel), fun _ _ _ _ _ h => absurd (by dsimp only [In.nm]) h⟩
  | re xs => exact ⟨fun h => absurd h (by dsimp only [In.nm]; decide +kernel), fun h => absurd h (by dsimp only [In.nm]; decide +kernel), fun h => absurd h (by dsimp only [In.nm]; decide +kernel), fun h => absurd h (by dsimp only [In.nm]; decide +kernel), fun h => absurd h (by dsimp only [In.nm]; decide +kernel), fun h => absurd h (by dsimp only [In.nm]; decide +kernel), fun h => rfl, fun h => absurd h (by dsimp only [In.nm]; decide +kernel), fun _ _ _ _ _ _ h => absurd (by dsimp only [In.nm]) h⟩
  | ag x y => exact ⟨fun h => absurd h (by dsimp only [In.nm]; decide +kernel), fun h => absurd h (by dsimp only [In.nm]; decide +kernel), fun h => absurd h (by dsimp only [In.nm]; decide +kernel), fun h => absurd h (by dsimp only [In.nm]; decide +kernel), fun h => absurd h (by dsimp only [In.nm]; decide +kernel), fun h => absurd h (by dsimp only [In.nm]; decide +kernel), fun h => absurd h (by dsimp only [In.nm]; decide +kernel), fun h => ⟨x, y, rfl, rfl, rfl⟩, fun _ _ _ _ _ _ _ h => absurd (by dsimp only [In.nm]) h⟩
  | _ => exact ⟨fun h => absurd h (by dsimp only [In.nm]; decide +kernel), fun h => absurd h (by dsimp only [In.nm]; decide +kernel), fun h => absurd h (by dsimp only [In.nm]; decide +kernel), fun h => absurd h (by dsimp only [In.nm]; decide +kernel), fun h => absurd h (by dsimp only [In.nm]; decide +kernel), fun h => absurd h (by dsimp only [In.nm]; decide +kernel), fun h => absurd h (by dsimp only [In.nm]; decide +kernel), fun h => absurd h (by dsimp only [In.nm]; decide +kernel), fun _ _ _ _ _ _ _ _ => rfl⟩
theorem lWr (x : In) : LWr x.nm (.str x.nm :: x.ds) x.wrt := by
  cases x with
  | un k d x p => refine ⟨fun h => absurd h ?_, fun h => ⟨d, rfl, rfl⟩, fun h => ⟨d, rfl, rfl⟩, fun h0 h => absurd h ?_⟩ <;> (clear h; (try clear h0); dsimp only [In.nm]; revert k; decide +kernel)
  | cm k d x y => refine ⟨fun h => absurd h ?_, fun h => ⟨d, rfl, rfl⟩, fun h => ⟨d, rfl, rfl⟩, fun h0 h => absurd h ?_⟩ <;> (clear h; (try clear h0); dsimp only [In.nm]; revert k; decide +kernel)
  | bi k d x y p => refine ⟨fun h => absurd h ?_, fun h => ⟨d, rfl, rfl⟩, fun h => ⟨d, rfl, rfl⟩, fun h0 h => absurd h ?_⟩ <;> (clear h; (try clear h0); dsimp only [In.nm]; revert k; decide +kernel)
  | mv d x => exact ⟨fun h => absurd h (by dsimp only [In.nm]; decide +kernel), fun h => ⟨d, rfl, rfl⟩, fun h => ⟨d, rfl, rfl⟩, fun _ h => absurd h (by dsimp only [In.nm]; decide +kernel)⟩
  | ld d h' c n e => exact ⟨fun h => absurd h (by dsimp only [In.nm]; decide +kernel), fun h => ⟨d, rfl, rfl⟩, fun h => ⟨d, rfl, rfl⟩, fun _ _ h => absurd h (by dsimp only [In.nm]; decide +kernel)⟩
  | ge d p => exact ⟨fun h => absurd h (by dsimp only [In.nm]; decide +kernel), fun h => ⟨d, rfl, rfl⟩, fun h => ⟨d, rfl, rfl⟩, fun _ _ h => absurd h (by dsimp only [In.nm]; decide +kernel)⟩
  | ca o h' xs rs p => exact ⟨fun h => rfl, fun h => absurd h (by dsimp only [In.nm]; decide +kernel), fun h => absurd h (by dsimp only [In.nm]; decide +kernel), fun h => absurd (by dsimp only [In.nm]) h⟩
  | _ => exact ⟨fun h => absurd h (by dsimp only [In.nm]; decide +kernel), fun h => absurd h (by dsimp only [In.nm]; decide +kernel), fun h => absurd h (by dsimp only [In.nm]; decide +kernel), fun _ _ _ => rfl⟩
theorem lOn (x : In) (ix : Int) : LOn x.nm (.str x.nm :: x.ds) ix (x.fol ix) := by
  cases x with
  | un k d x p => refine ⟨fun h => absurd h ?_, fun h => absurd h ?_, fun h => absurd h ?_, fun _ _ _ => rfl⟩ <;> (clear h; (try clear h0); dsimp only [In.nm]; revert k; decide +kernel)
  | cm k d x y => refine ⟨fun h => absurd h ?_, fun h => absurd h ?_, fun h => absurd h ?_, fun _ _ _ => rfl⟩ <;> (clear h; (try clear h0); dsimp only [In.nm]; revert k; decide +kernel)
  | bi k d x y p => refine ⟨fun h => absurd h ?_, fun h => absurd h ?_, fun h => absurd h ?_, fun _ _ _ => rfl⟩ <;> (clear h; (try clear h0); dsimp only [In.nm]; revert k; decide +kernel)
  | jm t => exact ⟨fun h => ⟨t, rfl, rfl⟩, fun h => absurd h (by dsimp only [In.nm]; decide +kernel), fun h => absurd h (by dsimp only [In.nm]; decide +kernel), fun h => absurd (by dsimp only [In.nm]) h⟩
  | br x t => exact ⟨fun h => absurd h (by dsimp only [In.nm]; decide +kernel), fun h => ⟨t, rfl, rfl⟩, fun h => absurd h (by dsimp only [In.nm]; decide +kernel), fun _ h => absurd (by dsimp only [In.nm]) h⟩
  | ra n p => exact ⟨fun h => absurd h (by dsimp only [In.nm]; decide +kernel), fun h => absurd h (by dsimp only [In.nm]; decide +kernel), fun _ => rfl, fun _ _ h => absurd h (by dsimp only [In.nm]; decide +kernel)⟩
  | ag x y => exact ⟨fun h => absurd h (by dsimp only [In.nm]; decide +kernel), fun h => absurd h (by dsimp only [In.nm]; decide +kernel), fun _ => rfl, fun _ _ h => absurd h (by dsimp only [In.nm]; decide +kernel)⟩
  | re xs => exact ⟨fun h => absurd h (by dsimp only [In.nm]; decide +kernel), fun h => absurd h (by dsimp only [In.nm]; decide +kernel), fun _ => rfl, fun _ _ h => absurd h (by dsimp only [In.nm]; decide +kernel)⟩
  | _ => exact ⟨fun h => absurd h (by dsimp only [In.nm]; decide +kernel), fun h => absurd h (by dsimp only [In.nm]; decide +kernel), fun h => absurd h (by dsimp only [In.nm]; decide +kernel), fun _ _ _ => rfl⟩

/-! ### the law's readings: the defs -/
def spLOps (K : PySem.W.Frag) : Sp := fun vs H Q _ => ∃ (v : V) (x : In), vs = [v] ∧ DT K H v x.D ∧ x.ops.length ≤ 10 ∧ ∀ (L : Addr) (us : List V) (H' : Hp), H' L = some (.lst us) → DTs K H' us (x.ops.map opD) → Same H H' → Q (.ref L) H'
def spLRd (K : PySem.W.Frag) : Sp := fun vs H Q _ => ∃ (v : V) (x : In), vs = [v] ∧ DT K H v x.D ∧ x.ops.length ≤ 10 ∧ ∀ (L : Addr) (H' : Hp), H' L = some (.lst (x.rdI.map V.int)) → Same H H' → Q (.ref L) H'
def spLWr (K : PySem.W.Frag) : Sp := fun vs H Q _ => ∃ (v : V) (x : In), vs = [v] ∧ DT K H v x.D ∧ ∀ (L : Addr) (H' : Hp), H L = none → H' L = some (.lst (x.wrt.map V.int)) → Same H H' → Q (.ref L) H'
theorem DTs.two {K : PySem.W.Frag} {H : Hp} {v1 v2 : V} {d1 d2 : PyData} (h1 : DT K H v1 d1) (h2 : DT K H v2 d2) : DTs K H [v1, v2] [d1, d2] := .cons h1 (.cons h2 .nil)
section
variable {P : Program} {w : World} {K : PySem.W.Frag} {mg : Str → Option Value} {base : Heap} {a : Ad}
theorem ok_law_operands (T : Txt K mg a) : FnOk P w K mg base CX0 1 a.f_law_operands a.d_law_operands ["instruction"] (spLOps K) := by
  refine T.F__law_operands.ok sc_law_operands (fun vs H Q E h => ?_) (fun cdv A outer s H vs Q E hr h => ?_)
  · obtain ⟨_, _, rfl, _⟩ := h; rfl
  · obtain ⟨v, x, rfl, hv, hol, q⟩ := h
    have hz := sizeLine_eq
    obtain ⟨pa, xs, rfl, hs, hd⟩ := hv.ts
    obtain ⟨v0, e0, d0⟩ := hd.it 0 (d := .str x.nm) rfl
    cases d0.s
    have LO := lOps x
    generalize x.nm = nm at LO hd e0 hv
    generalize x.ds = ds at LO hd hv
    generalize x.ops = gs at LO hol q
    have lists : ∀ {H1 : Hp} {vs : List V}, Same H H1 → DTs K H vs (gs.map opD) → ∀ L, H1 L = none → Q (.ref L) (upd H1 L (.lst vs)) := fun s1 dv L nL => q L _ _ upd_same ((dv.keep (KT.same s1)).keep (KT.new nL)) (sN s1 nL)
    refine ⟨_, (pss_cons (ps_set (i := 1) sc_law_operands.nd rfl (Or.inl rfl) (pe_ix ix_tup (pv 0) pe_int (fun _ _ => rfl)))
      (pss_cons (ps_if (pt_cmpR op_inS (pv 1) (pe_lst (pa_cons pe_str (pa_cons pe_str (pa_cons pe_str pa_nil)))) rfl) (pss_one (ps_ret (pe_lst (pa_cons (pe_ix ix_tup (pv 0) pe_int (fun _ _ => rfl)) pa_nil)))) pss_nil)
      (pss_cons (ps_if (pt_cmpR op_inS (pv 1) (pe_lst (pa_cons pe_str (pa_cons pe_str (pa_cons pe_str (pa_cons pe_str (pa_cons pe_str (pa_cons pe_str (pa_cons pe_str (pa_cons pe_str pa_nil))))))))) rfl) (pss_one (ps_ret (pe_lst (pa_cons (pe_ix ix_tup (pv 0) pe_int (fun _ _ => rfl)) (pa_cons (pe_ix ix_tup (pv 0) pe_int (fun _ _ => rfl)) pa_nil))))) pss_nil)
      (pss_cons (ps_if (pt_cmpR op_inS (pv 1) (pe_lst (pa_cons pe_str (pa_cons pe_str (pa_cons pe_str pa_nil)))) rfl) (pss_one (ps_ret (pe_lst (pa_cons (pe_ix ix_tup (pv 0) pe_int (fun _ _ => rfl)) pa_nil)))) pss_nil)
      (pss_cons (ps_if (pt_cmpR op_eq (pv 1) pe_str (nomark _)) (pss_one (ps_ret (pe_lst (pa_cons (pe_ix ix_tup (pv 0) pe_int (fun _ _ => rfl)) pa_nil)))) pss_nil)
      (pss_cons (ps_if (pt_cmpR op_eq (pv 1) pe_str (nomark _)) (pss_one (ps_ret (pe_lst (pa_cons (pe_ix ix_tup (pv 0) pe_int (fun _ _ => rfl)) (pa_cons (pe_ix ix_tup (pv 0) pe_int (fun _ _ => rfl)) pa_nil))))) pss_nil)
      (pss_cons (ps_if (pt_cmpR op_eq (pv 1) pe_str (nomark _)) (pss_one (ps_ret (pe_callTy call_list_of (by rfl) T.b_list (by decide +kernel) (pa_cons (pe_ix ix_tup (pv 0) pe_int (fun _ _ => rfl)) pa_nil)))) pss_nil)
      (pss_cons (ps_if (pt_cmpR op_eq (pv 1) pe_str (nomark _)) (pss_one (ps_ret (pe_callTy call_list_of (by rfl) T.b_list (by decide +kernel) (pa_cons (pe_ix ix_tup (pv 0) pe_int (fun _ _ => rfl)) pa_nil)))) pss_nil)
      (pss_cons (ps_if (pt_cmpR op_eq (pv 1) pe_str (nomark _)) (pss_one (ps_ret (pe_lst (pa_cons (pe_ix ix_tup (pv 0) pe_int (fun _ _ => rfl)) (pa_cons (pe_ix ix_tup (pv 0) pe_int (fun _ _ => rfl)) pa_nil))))) pss_nil)
      (pss_one (ps_ret (pe_lst pa_nil)))))))))))), ?_⟩
    refine ⟨_, rfl, _, _, _, _, rfl, rfl, hs, e0, ?_⟩
    refine ⟨_, rfl, (by show 3 ≤ sizeLine; decide), fun l1 n1 => ⟨l1, la, rfl, .inl (SqL.of upd_same), rfl, (by decide +kernel), _, rfl, ite3 (fun c1 => ?_) (fun c1 => ?_)⟩⟩
    · obtain ⟨o, h1, rfl⟩ := LO.a c1
      obtain ⟨v1, e1, d1⟩ := hd.it 2 h1
      have s1 := sN (Same.refl H) n1 (o := .lst la)
      exact ⟨_, rfl, _, _, _, _, rfl, rfl, seqT s1 hs, e1, (by show 1 ≤ sizeLine; decide), lists s1 (.cons d1 .nil)⟩
    have s1 := sN (Same.refl H) n1 (o := .lst la)
    refine ⟨_, rfl, (by show 8 ≤ sizeLine; decide), fun l2 n2 => ⟨l2, lb, rfl, .inl (SqL.of upd_same), rfl, (by decide +kernel), _, rfl, ite3 (fun c2 => ?_) (fun c2 => ?_)⟩⟩
    · obtain ⟨o1, o2, h1, h2, rfl⟩ := LO.b c2
      obtain ⟨v1, e1, d1⟩ := hd.it 2 h1
      obtain ⟨v2, e2, d2⟩ := hd.it 3 h2
      have s2 := sN s1 n2 (o := .lst lb)
      exact ⟨_, rfl, _, _, _, _, rfl, rfl, seqT s2 hs, e1, _, rfl, _, _, _, _, rfl, rfl, seqT s2 hs, e2, (by show 2 ≤ sizeLine; decide), lists s2 (DTs.two d1 d2)⟩
    have s2 := sN s1 n2 (o := .lst lb)
    refine ⟨_, rfl, (by show 3 ≤ sizeLine; decide), fun l3 n3 => ⟨l3, lc, rfl, .inl (SqL.of upd_same), rfl, (by decide +kernel), _, rfl, ite3 (fun c3 => ?_) (fun c3 => ?_)⟩⟩
    · obtain ⟨o, h1, rfl⟩ := LO.c c3
      obtain ⟨v1, e1, d1⟩ := hd.it 1 h1
      have s3 := sN s2 n3 (o := .lst lc)
      exact ⟨_, rfl, _, _, _, _, rfl, rfl, seqT s3 hs, e1, (by show 1 ≤ sizeLine; decide), lists s3 (.cons d1 .nil)⟩
    have s3 := sN s2 n3 (o := .lst lc)
    refine ⟨_, rfl, rfl, _, rfl, ite3 (fun c4 => ?_) (fun c4 => ?_)⟩
    · obtain ⟨o, h1, rfl⟩ := LO.d (str_dec c4)
      obtain ⟨v1, e1, d1⟩ := hd.it 5 h1
      exact ⟨_, rfl, _, _, _, _, rfl, rfl, seqT s3 hs, e1, (by show 1 ≤ sizeLine; decide), lists s3 (.cons d1 .nil)⟩
    refine ⟨_, rfl, rfl, _, rfl, ite3 (fun c5 => ?_) (fun c5 => ?_)⟩
    · obtain ⟨o1, o2, h1, h2, rfl⟩ := LO.e (str_dec c5)
      obtain ⟨v1, e1, d1⟩ := hd.it 4 h1
      obtain ⟨v2, e2, d2⟩ := hd.it 5 h2
      exact ⟨_, rfl, _, _, _, _, rfl, rfl, seqT s3 hs, e1, _, rfl, _, _, _, _, rfl, rfl, seqT s3 hs, e2, (by show 2 ≤ sizeLine; decide), lists s3 (DTs.two d1 d2)⟩
    refine ⟨_, rfl, rfl, _, rfl, ite3 (fun c6 => ?_) (fun c6 => ?_)⟩
    · obtain ⟨v1, e1, d1⟩ := hd.it 3 (LO.f (str_dec c6))
      obtain ⟨pb, zs, rfl, hzs, dzs⟩ := d1.ts
      refine ⟨_, rfl, _, _, _, _, rfl, rfl, seqT s3 hs, e1, pb, zs, rfl, .inr (seqT s3 hzs), lists s3 dzs⟩
    refine ⟨_, rfl, rfl, _, rfl, ite3 (fun c7 => ?_) (fun c7 => ?_)⟩
    · obtain ⟨v1, e1, d1⟩ := hd.it 1 (LO.g (str_dec c7))
      obtain ⟨pb, zs, rfl, hzs, dzs⟩ := d1.ts
      refine ⟨_, rfl, _, _, _, _, rfl, rfl, seqT s3 hs, e1, pb, zs, rfl, .inr (seqT s3 hzs), lists s3 dzs⟩
    refine ⟨_, rfl, rfl, _, rfl, ite3 (fun c8 => ?_) (fun c8 => ?_)⟩
    · obtain ⟨o1, o2, h1, h2, rfl⟩ := LO.h (str_dec c8)
      obtain ⟨v1, e1, d1⟩ := hd.it 1 h1
      obtain ⟨v2, e2, d2⟩ := hd.it 2 h2
      exact ⟨_, rfl, _, _, _, _, rfl, rfl, seqT s3 hs, e1, _, rfl, _, _, _, _, rfl, rfl, seqT s3 hs, e2, (by show 2 ≤ sizeLine; decide), lists s3 (DTs.two d1 d2)⟩
    obtain rfl := LO.i c1 c2 c3 (str_dec' c4) (str_dec' c5) (str_dec' c6) (str_dec' c7) (str_dec' c8)
    exact ⟨(by show 0 ≤ sizeLine; decide), lists s3 .nil⟩
theorem ok_law_reads (T : Txt K mg a) : FnOk P w K mg base CX0 2 a.f_law_reads a.d_law_reads ["instruction"] (spLRd K) := by
  have G_law_operands : FnOk P w K mg base CX0 1 _ _ _ _ := ok_law_operands T
  refine T.F__law_reads.ok sc_law_reads (fun vs H Q E h => ?_) (fun cdv A outer s H vs Q E hr h => ?_)
  · obtain ⟨_, _, rfl, _⟩ := h; rfl
  · obtain ⟨v, x, rfl, hv, hol, q⟩ := h
    have hz := sizeLine_eq
    refine ⟨_, (pss_one (ps_ret (pe_lc (own := [("operand", 1)]) (g := gName 1) rfl sc_law_reads.nd (pi_list (pe_call G_law_operands (hr.mono (by decide)) rfl T.g__law_operands T.k__law_operands T.bd__law_operands .nil pass0 (pa_cons (pv 0) pa_nil))) (blkOk_by (own := [("operand", 1)]) (N := ["instruction", "operand"]) (sc := defScope s_law_reads) (by decide +kernel)) (fun _ _ _ _ _ => pg_name (i := 1) sc_law_reads.nd rfl (Or.inl rfl)) (fun _ _ _ _ _ => (pts_one (pt_cmpR op_eq (pe_ix (ix_tupK (K := K) rfl) (pv 1) pe_int (fun _ _ => rfl)) pe_str (nomark _)))) (fun _ _ _ _ _ => (pe_ix (ix_tupK (K := K) rfl) (pv 1) pe_int (fun _ _ => rfl)))))), ?_⟩
    refine ⟨_, rfl, v, x, rfl, hv, hol, fun L us H1 hL du s1 => ?_⟩
    have hul : us.length = x.ops.length := by rw [du.len]; simp
    refine ⟨L, rfl, ⟨_, SqL.of hL⟩, fun M nM => ?_⟩
    refine lc_list (K := K) (a := L) (xs := us) (fun i H' => Same H1 H' ∧ H' M = some (.lst ((((x.ops.take i).filter fun g => decide (g.1 = ("reg" : Str))).map Prod.snd).map V.int))) ⟨sN (Same.refl H1) nM, upd_same⟩ (fun i H' _ h => SqL.of (h.1 _ _ hL)) ?_ ?_
    · rintro i y H' hx ⟨ss, hM⟩
      obtain ⟨d, ed, dx⟩ := du.at hx
      rw [List.getElem?_map] at ed
      obtain ⟨⟨z, n⟩, eg, rfl⟩ := Option.map_eq_some_iff.mp ed
      obtain ⟨pb, rfl, hys⟩ := (dx.keep (KT.same ss)).op
      have hi : i < us.length := (List.getElem?_eq_some_iff.mp hx).1
      refine ⟨rfl, _, rfl, pb, _, _, _, rfl, rfl, hys, atI_nat (j := 0) rfl, rfl, _, rfl, ?_⟩
      rw [filter_step _ eg]
      have e0 : decide (V.str z = V.str "reg") = decide (z = ("reg" : Str)) := decide_eq_decide.mpr ⟨fun h => by injection h, fun h => by rw [h]⟩
      rw [e0]
      have fl : (((x.ops.take i).filter fun g => decide (g.1 = ("reg" : Str))).map Prod.snd).length ≤ 10 := by
        rw [List.length_map]
        exact Nat.le_trans (List.length_filter_le _ _) (by simp; omega)
      cases e : decide (z = ("reg" : Str)) with
      | true =>
        refine iteT ⟨_, rfl, pb, _, _, _, rfl, rfl, hys, atI_nat (j := 1) rfl, _, hM, by rw [List.length_map]; omega, sUpd ss nM, ?_⟩
        rw [upd_same]
        simp
      | false => exact iteF ⟨ss, by rw [hM]; simp⟩
    · rintro H' ⟨ss, hM⟩
      rw [hul, List.take_length] at hM
      exact q M H' hM (sTr s1 ss)
theorem ok_law_writes (T : Txt K mg a) : FnOk P w K mg base CX0 1 a.f_law_writes a.d_law_writes ["instruction"] (spLWr K) := by
  refine T.F__law_writes.ok sc_law_writes (fun vs H Q E h => ?_) (fun cdv A outer s H vs Q E hr h => ?_)
  · obtain ⟨_, _, rfl, _⟩ := h; rfl
  · obtain ⟨v, x, rfl, hv, q⟩ := h
    have hz := sizeLine_eq
    obtain ⟨pa, xs, rfl, hs, hd⟩ := hv.ts
    obtain ⟨v0, e0, d0⟩ := hd.it 0 (d := .str x.nm) rfl
    cases d0.s
    have LW := lWr x
    generalize x.nm = nm at LW hd e0 hv
    generalize x.ds = ds at LW hd hv
    generalize x.wrt = ns at LW q
    have lists : ∀ {H1 : Hp}, Same H H1 → ∀ L, H1 L = none → Q (.ref L) (upd H1 L (.lst (ns.map V.int))) := fun s1 L nL => q L _ (none_of s1 nL) upd_same (sN s1 nL)
    refine ⟨_, (pss_cons (ps_if (pt_cmpR op_eq (pe_ix ix_tup (pv 0) pe_int (fun _ _ => rfl)) pe_str (nomark _)) (pss_one (ps_ret (pe_callTy call_list_of (by rfl) T.b_list (by decide +kernel) (pa_cons (pe_ix ix_tup (pv 0) pe_int (fun _ _ => rfl)) pa_nil)))) pss_nil)
      (pss_cons (ps_if (pt_cmpR op_inS (pe_ix ix_tup (pv 0) pe_int (fun _ _ => rfl)) (pe_lst (pa_cons pe_str (pa_cons pe_str (pa_cons pe_str (pa_cons pe_str (pa_cons pe_str (pa_cons pe_str (pa_cons pe_str (pa_cons pe_str (pa_cons pe_str (pa_cons pe_str (pa_cons pe_str pa_nil)))))))))))) rfl) (pss_one (ps_ret (pe_lst (pa_cons (pe_ix ix_tup (pv 0) pe_int (fun _ _ => rfl)) pa_nil)))) pss_nil)
      (pss_cons (ps_if (pt_cmpR op_inS (pe_ix ix_tup (pv 0) pe_int (fun _ _ => rfl)) (pe_lst (pa_cons pe_str (pa_cons pe_str pa_nil))) rfl) (pss_one (ps_ret (pe_lst (pa_cons (pe_ix ix_tup (pv 0) pe_int (fun _ _ => rfl)) pa_nil)))) pss_nil)
      (pss_one (ps_ret (pe_lst pa_nil)))))), ?_⟩
    refine ⟨_, rfl, _, _, _, _, rfl, rfl, hs, e0, rfl, _, rfl, ite3 (fun c1 => ?_) (fun c1 => ?_)⟩
    · obtain ⟨v1, e1, d1⟩ := hd.it 4 (LW.a (str_dec c1))
      obtain ⟨pb, zs, rfl, hzs, dzs⟩ := d1.ts
      obtain rfl := dzs.ints
      exact ⟨_, rfl, _, _, _, _, rfl, rfl, hs, e1, pb, _, rfl, .inr hzs, lists (Same.refl H)⟩
    refine ⟨_, rfl, _, _, _, _, rfl, rfl, hs, e0, (by show 11 ≤ sizeLine; decide), fun l1 n1 => ⟨l1, ld, rfl, .inl (SqL.of upd_same), rfl, (by decide +kernel), _, rfl, ite3 (fun c2 => ?_) (fun c2 => ?_)⟩⟩
    · obtain ⟨d, h1, rfl⟩ := LW.b c2
      obtain ⟨v1, e1, d1⟩ := hd.it 1 h1
      cases d1.i
      have s1 := sN (Same.refl H) n1 (o := .lst ld)
      exact ⟨_, rfl, _, _, _, _, rfl, rfl, seqT s1 hs, e1, (by show 1 ≤ sizeLine; decide), lists s1⟩
    have s1 := sN (Same.refl H) n1 (o := .lst ld)
    refine ⟨_, rfl, _, _, _, _, rfl, rfl, seqT s1 hs, e0, (by show 2 ≤ sizeLine; decide), fun l2 n2 => ⟨l2, le', rfl, .inl (SqL.of upd_same), rfl, (by decide +kernel), _, rfl, ite3 (fun c3 => ?_) (fun c3 => ?_)⟩⟩
    · obtain ⟨d, h1, rfl⟩ := LW.c c3
      obtain ⟨v1, e1, d1⟩ := hd.it 1 h1
      cases d1.i
      have s2 := sN s1 n2 (o := .lst le')
      exact ⟨_, rfl, _, _, _, _, rfl, rfl, seqT s2 hs, e1, (by show 1 ≤ sizeLine; decide), lists s2⟩
    have s2 := sN s1 n2 (o := .lst le')
    obtain rfl := LW.d (str_dec' c1) c2 c3
    exact ⟨(by show 0 ≤ sizeLine; decide), lists s2⟩
end

/-! ### the unit, plain; ways of the law -/
structure UnP (K : PySem.W.Frag) (C : Addr) (H : Hp) (p : Addr) (g : Int) (xs : List In) (rs : List (List Int)) : Prop where
  o : ∃ dx v0 v1 v2 v4 ca ra us ws, H p = some (.ins C dx (unF v0 v1 v2 (.int g) v4 (.ref ca) (.ref ra))) ∧ SqT K H ca us ∧ DTs K H us (xs.map In.D) ∧ SqT K H ra ws ∧ DTs K H ws (rs.map regD)
  k : UnOk g xs rs
  a : ∃ (ar : Int) (dx : Addr) (v0 v2 v3 v4 : V) (ca ra : Addr), H p = some (.ins C dx (unF v0 (.int ar) v2 v3 v4 (.ref ca) (.ref ra))) ∧ 0 ≤ ar ∧ ar ≤ 6 ∧ ar ≤ g
theorem UnP.same {K : PySem.W.Frag} {C : Addr} {H H' : Hp} {p : Addr} {g : Int} {xs : List In} {rs : List (List Int)} (h : UnP K C H p g xs rs) (s : Same H H') : UnP K C H' p g xs rs := by
  obtain ⟨dx, v0, v1, v2, v4, ca, ra, us, ws, h1, h2, h3, h4, h5⟩ := h.o
  exact ⟨⟨dx, v0, v1, v2, v4, ca, ra, us, ws, s _ _ h1, seqT s h2, h3.keep (KT.same s), seqT s h4, h5.keep (KT.same s)⟩, h.k, by
    obtain ⟨ar, dx, v0, v2, v3, v4, ca, ra, h1, h2, h3⟩ := h.a
    exact ⟨ar, dx, v0, v2, v3, v4, ca, ra, s _ _ h1, h2, h3⟩⟩
theorem UnT.p {K : PySem.W.Frag} {C : Addr} {τ : Tg} {H : Hp} {p : Addr} {g : Int} {xs : List In} {rs : List (List Int)} (h : UnT K C τ H p g xs rs) : UnP K C H p g xs rs := by
  obtain ⟨dx, v0, v1, v2, v4, ca, ra, us, ws, h1, h2, h3, h4, h5⟩ := h.o
  exact ⟨⟨dx, v0, v1, v2, v4, ca, ra, us, ws, h1.1, h2, h3, h4, h5⟩, h.k, by
    obtain ⟨ar, dx, v0, v2, v3, v4, ca, ra, h1, h2, h3⟩ := h.a
    exact ⟨ar, dx, v0, v2, v3, v4, ca, ra, h1.1, h2, h3⟩⟩
def WyT (H0 H : Hp) (L : Addr) (v : V) (t : Int) (l : List Int) : Prop := ∃ p q, v = .ref p ∧ H p = some (.lst [.int t, .ref q]) ∧ H q = some (.lst (l.map V.int)) ∧ p ≠ L ∧ q ≠ L ∧ H0 p = none ∧ H0 q = none
def Wys (H0 H : Hp) (L : Addr) (us : List V) (ws : List (Int × List Int)) : Prop := us.length = ws.length ∧ ∀ (j : Nat) (u : V), us[j]? = some u → ∃ t l, ws[j]? = some (t, l) ∧ WyT H0 H L u t l
theorem WyT.same {H0 H H' : Hp} {L : Addr} {v : V} {t : Int} {l : List Int} (h : WyT H0 H L v t l) (s : Same H H') : WyT H0 H' L v t l := by
  obtain ⟨p, q, e, h1, h2, h3, h4, h5, h6⟩ := h
  exact ⟨p, q, e, s _ _ h1, s _ _ h2, h3, h4, h5, h6⟩
theorem WyT.put {H0 H : Hp} {L : Addr} {v : V} {t : Int} {l : List Int} {o : HO} (h : WyT H0 H L v t l) : WyT H0 (upd H L o) L v t l := by
  obtain ⟨p, q, e, h1, h2, h3, h4, h5, h6⟩ := h
  exact ⟨p, q, e, by rw [upd_ne h3]; exact h1, by rw [upd_ne h4]; exact h2, h3, h4, h5, h6⟩
theorem Wys.same {H0 H H' : Hp} {L : Addr} {us : List V} {ws : List (Int × List Int)} (h : Wys H0 H L us ws) (s : Same H H') : Wys H0 H' L us ws :=
  ⟨h.1, fun j u e => by obtain ⟨t, l, e1, w⟩ := h.2 j u e; exact ⟨t, l, e1, w.same s⟩⟩
theorem Wys.put {H0 H : Hp} {L : Addr} {us : List V} {ws : List (Int × List Int)} {o : HO} (h : Wys H0 H L us ws) : Wys H0 (upd H L o) L us ws :=
  ⟨h.1, fun j u e => by obtain ⟨t, l, e1, w⟩ := h.2 j u e; exact ⟨t, l, e1, w.put⟩⟩
theorem Wys.app {H0 H : Hp} {L : Addr} {us : List V} {ws : List (Int × List Int)} {v : V} {t : Int} {l : List Int} (h : Wys H0 H L us ws) (w : WyT H0 H L v t l) : Wys H0 H L (us ++ [v]) (ws ++ [(t, l)]) := by
  refine ⟨by simp [h.1], fun j u e => ?_⟩
  rw [List.getElem?_append] at e ⊢
  rw [← h.1]
  split at e
  · rename_i c
    rw [if_pos c]
    exact h.2 j u e
  · rename_i c
    rw [if_neg c]
    have hj : j - us.length = 0 := by
      have := (List.getElem?_eq_some_iff.mp e).1
      simp at this
      omega
    rw [hj] at e ⊢
    simp at e
    subst e
    exact ⟨t, l, rfl, w⟩
def lwI (x : In) (i : Int) (r : Option (List Int)) : List (Int × List Int) := (x.fol i).map (fun t => (t, x.wrt)) ++ (if x.can = true then (match r with
  | none => []
  | some r => [(r.getD 2 0, [r.getD 3 0, r.getD 4 0])]) else [])
theorem stB_lw {x : In} {i : Int} {r : Option (List Int)} {f : Bf} {k : Nat} : stB x i r f k = true ↔ (k : Int) ∈ x.rdI ∨ ∃ w ∈ lwI x i r, f w.1 k = true ∧ (k : Int) ∉ w.2 := by
  rw [stB_true]
  unfold lwI
  constructor
  · rintro (⟨⟨t, ht, ft⟩, hw⟩ | ⟨q, hc, rfl, h1, h2, h3⟩ | h)
    · exact .inr ⟨(t, x.wrt), List.mem_append.mpr (.inl (List.mem_map.mpr ⟨t, ht, rfl⟩)), ft, hw⟩
    · refine .inr ⟨(q.getD 2 0, [q.getD 3 0, q.getD 4 0]), List.mem_append.mpr (.inr ?_), h1, ?_⟩
      · rw [if_pos hc]
        exact List.mem_singleton.mpr rfl
      · simp only [List.mem_cons, List.not_mem_nil, or_false]
        omega
    · exact .inl h
  · rintro (h | ⟨w, hw, h1, h2⟩)
    · exact .inr (.inr h)
    · rcases List.mem_append.mp hw with z | z
      · obtain ⟨t, ht, rfl⟩ := List.mem_map.mp z
        exact .inl ⟨⟨t, ht, h1⟩, h2⟩
      · split at z
        · rename_i hc
          cases r with
          | none => exact absurd z (by simp)
          | some q =>
            obtain rfl := List.mem_singleton.mp z
            simp only [List.mem_cons, List.not_mem_nil, or_false] at h2
            exact .inr (.inl ⟨q, hc, rfl, h1, by omega, by omega⟩)
        · exact absurd z (by simp)
def spLOn (K : PySem.W.Frag) (C : Addr) : Sp := fun vs H Q _ => ∃ (p : Addr) (g : Int) (xs : List In) (rs : List (List Int)) (i : Nat) (x : In), vs = [.ref p, .int (i : Int)] ∧ UnP K C H p g xs rs ∧ xs[i]? = some x ∧ ∀ (L : Addr) (H' : Hp), H' L = some (.lst ((x.fol i).map V.int)) → Same H H' → Q (.ref L) H'
def spLWy (K : PySem.W.Frag) (C : Addr) : Sp := fun vs H Q _ => ∃ (p : Addr) (g : Int) (xs : List In) (rs : List (List Int)) (i : Nat) (x : In), vs = [.ref p, .int (i : Int)] ∧ UnP K C H p g xs rs ∧ xs[i]? = some x ∧ ∀ (L : Addr) (us : List V) (H' : Hp), H L = none → H' L = some (.lst us) → Wys H H' L us (lwI x i (reI rs i)) → Same H H' → Q (.ref L) H'
section
variable {P : Program} {w : World} {K : PySem.W.Frag} {mg : Str → Option Value} {base : Heap} {a : Ad}
theorem ok_law_onward (T : Txt K mg a) : FnOk P w K mg base CX0 1 a.f_law_onward a.d_law_onward ["unit", "index"] (spLOn K a.C_Unit) := by
  refine T.F__law_onward.ok sc_law_onward (fun vs H Q E h => ?_) (fun cdv A outer s H vs Q E hr h => ?_)
  · obtain ⟨_, _, _, _, _, _, rfl, _⟩ := h; rfl
  · obtain ⟨p, g, xs, rs, i, x, rfl, U, ex, q⟩ := h
    obtain ⟨dx, v0, v1, v2, v4, ca, ra, us, ws, hp, hca, hcs, hra, hws⟩ := U.o
    obtain ⟨v, ev, dv⟩ := hcs.it i (d := x.D) (by simp [ex])
    obtain ⟨pa, ys, rfl, hs, hd⟩ := dv.ts
    obtain ⟨w0, e0, d0⟩ := hd.it 0 (d := .str x.nm) rfl
    cases d0.s
    have LO := lOn x i
    generalize x.nm = nm at LO hd e0 dv
    generalize x.ds = ds at LO hd dv
    generalize x.fol i = ns at LO q
    have lists : ∀ {H1 : Hp}, Same H H1 → ∀ L, H1 L = none → Q (.ref L) (upd H1 L (.lst (ns.map V.int))) := fun s1 L nL => q L _ upd_same (sN s1 nL)
    refine ⟨_, (pss_cons (ps_set (i := 2) sc_law_onward.nd rfl (Or.inl rfl) (pe_ix ix_tup (pe_fld (pv 0) rfl) (pv 1) (fun _ _ => rfl)))
      (pss_cons (ps_if (pt_cmpR op_eq (pe_ix ix_tup (pv 2) pe_int (fun _ _ => rfl)) pe_str (nomark _)) (pss_one (ps_ret (pe_lst (pa_cons (pe_ix ix_tup (pv 2) pe_int (fun _ _ => rfl)) pa_nil)))) pss_nil)
      (pss_cons (ps_if (pt_cmpR op_eq (pe_ix ix_tup (pv 2) pe_int (fun _ _ => rfl)) pe_str (nomark _)) (pss_one (ps_ret (pe_lst (pa_cons (pe_op op_add (pv 1) pe_int) (pa_cons (pe_ix ix_tup (pv 2) pe_int (fun _ _ => rfl)) pa_nil))))) pss_nil)
      (pss_cons (ps_if (pt_cmpR op_inS (pe_ix ix_tup (pv 2) pe_int (fun _ _ => rfl)) (pe_lst (pa_cons pe_str (pa_cons pe_str (pa_cons pe_str pa_nil)))) rfl) (pss_one (ps_ret (pe_lst pa_nil))) pss_nil)
      (pss_one (ps_ret (pe_lst (pa_cons (pe_op op_add (pv 1) pe_int) pa_nil)))))))), ?_⟩
    refine ⟨_, rfl, p, a.C_Unit, dx, _, _, rfl, hp, T.cl_Unit, T.n_Unit_code, un_cd _ _ _ _ _ _ _, _, rfl, _, _, _, _, rfl, rfl, hca, ev, ?_⟩
    refine ⟨_, rfl, _, _, _, _, rfl, rfl, hs, e0, rfl, _, rfl, ite3 (fun c1 => ?_) (fun c1 => ?_)⟩
    · obtain ⟨t, h1, rfl⟩ := LO.a (str_dec c1)
      obtain ⟨v1, e1, d1⟩ := hd.it 1 h1
      cases d1.i
      exact ⟨_, rfl, _, _, _, _, rfl, rfl, hs, e1, (by show 1 ≤ sizeLine; decide), lists (Same.refl H)⟩
    refine ⟨_, rfl, _, _, _, _, rfl, rfl, hs, e0, rfl, _, rfl, ite3 (fun c2 => ?_) (fun c2 => ?_)⟩
    · obtain ⟨t, h1, rfl⟩ := LO.b (str_dec c2)
      obtain ⟨v1, e1, d1⟩ := hd.it 2 h1
      cases d1.i
      exact ⟨_, rfl, _, _, rfl, rfl, _, rfl, _, _, _, _, rfl, rfl, hs, e1, (by show 2 ≤ sizeLine; decide), lists (Same.refl H)⟩
    refine ⟨_, rfl, _, _, _, _, rfl, rfl, hs, e0, (by show 3 ≤ sizeLine; decide), fun l1 n1 => ⟨l1, lvs, rfl, .inl (SqL.of upd_same), rfl, (by decide +kernel), _, rfl, ite3 (fun c3 => ?_) (fun c3 => ?_)⟩⟩
    · have s1 := sN (Same.refl H) n1 (o := .lst lvs)
      obtain rfl := LO.c c3
      exact ⟨(by show 0 ≤ sizeLine; decide), lists s1⟩
    · have s1 := sN (Same.refl H) n1 (o := .lst lvs)
      obtain rfl := LO.d (str_dec' c1) (str_dec' c2) c3
      exact ⟨_, rfl, _, _, rfl, rfl, (by show 1 ≤ sizeLine; decide), lists s1⟩
theorem ok_law_ways (T : Txt K mg a) : FnOk P w K mg base CX0 2 a.f_law_ways a.d_law_ways ["unit", "index"] (spLWy K a.C_Unit) := by
  have G_law_onward : FnOk P w K mg base CX0 1 _ _ _ _ := ok_law_onward T
  have G_law_writes : FnOk P w K mg base CX0 1 _ _ _ _ := ok_law_writes T
  refine T.F__law_ways.ok sc_law_ways (fun vs H Q E h => ?_) (fun cdv A outer s H vs Q E hr h => ?_)
  · obtain ⟨_, _, _, _, _, _, rfl, _⟩ := h; rfl
  · obtain ⟨p, g, xs, rs, i, x, rfl, U, ex, q⟩ := h
    have hz := sizeLine_eq
    obtain ⟨dx, v0, v1, v2, v4, ca, ra, us, ws, hp, hca, hcs, hra, hws⟩ := U.o
    obtain ⟨v, ev, dv⟩ := hcs.it i (d := x.D) (by simp [ex])
    refine ⟨_, (pss_cons (ps_set (i := 2) sc_law_ways.nd rfl (Or.inr rfl) (pe_ix ix_tup (pe_fld (pv 0) rfl) (pv 1) (fun _ _ => rfl)))
      (pss_cons (ps_setLc (i := 3) (own := [("following", 4)]) (g := gName 4) rfl sc_law_ways.nd rfl rfl (sw_true rfl rfl rfl (by decide +kernel)) (pi_list (pe_call G_law_onward (hr.mono (by decide)) rfl T.g__law_onward T.k__law_onward T.bd__law_onward .nil pass0 (pa_cons (pv 0) (pa_cons (pv 1) pa_nil)))) (blkOk_by (own := [("following", 4)]) (N := ["unit", "index", "instruction", "ways", "following", "raising", "region"]) (sc := defScope s_law_ways) (by decide +kernel)) (fun _ _ _ _ _ => pg_name (i := 4) sc_law_ways.nd rfl (Or.inl rfl)) (fun _ _ _ _ _ => pts_nil) (fun _ _ _ _ _ => (pe_lst (pa_cons (pv 4) (pa_cons (pe_call G_law_writes (hr.mono (by decide)) rfl T.g__law_writes T.k__law_writes T.bd__law_writes .nil pass0 (pa_cons (pv 2) pa_nil)) pa_nil)))))
      (pss_cons (ps_set (i := 5) sc_law_ways.nd rfl (Or.inl rfl) (pe_lst (pa_cons pe_str (pa_cons pe_str (pa_cons pe_str (pa_cons pe_str (pa_cons pe_str (pa_cons pe_str (pa_cons pe_str (pa_cons pe_str (pa_cons pe_str (pa_cons pe_str (pa_cons pe_str (pa_cons pe_str (pa_cons pe_str pa_nil)))))))))))))))
      (pss_cons (ps_if (pt_cmpR op_inS (pe_ix ix_tup (pv 2) pe_int (fun _ _ => rfl)) (pv 5) rfl) (pss_one (ps_for PassesOwn.never rfl (pi_tup (pe_fld (pv 0) rfl)) (pg_name (i := 6) sc_law_ways.nd rfl (Or.inl rfl)) (pss_one (ps_if (PW.pt (pw_and (pt_cmpR op_le (pe_ix ix_tup (pv 6) pe_int (fun _ _ => rfl)) (pv 1) (nomark _)) (pw_and1 (pt_cmpR op_lt (pv 1) (pe_ix ix_tup (pv 6) pe_int (fun _ _ => rfl)) (nomark _))))) (pss_cons (ps_expr (pe_bm PySem.F.plainAttrs_list PySem.F.slot_list_append PySem.F.type_list_append mt_append (pv 3) (pa_cons (pe_lst (pa_cons (pe_ix ix_tup (pv 6) pe_int (fun _ _ => rfl)) (pa_cons (pe_lst (pa_cons (pe_ix ix_tup (pv 6) pe_int (fun _ _ => rfl)) (pa_cons (pe_ix ix_tup (pv 6) pe_int (fun _ _ => rfl)) pa_nil))) pa_nil))) pa_nil)))
      (pss_one (ps_ret (pv 3)))) pss_nil)))) pss_nil)
      (pss_one (ps_ret (pv 3))))))), ?_⟩
    refine ⟨_, rfl, p, a.C_Unit, dx, _, _, rfl, hp, T.cl_Unit, T.n_Unit_code, un_cd _ _ _ _ _ _ _, _, rfl, _, _, _, _, rfl, rfl, hca, ev, ?_⟩
    have fl : (x.fol i).length ≤ 2 := by cases x <;> exact Nat.le_of_ble_eq_true rfl
    refine ⟨_, rfl, _, rfl, p, g, xs, rs, i, x, rfl, U, ex, fun F H1 hF s1 => ?_⟩
    refine ⟨F, rfl, ⟨_, SqL.of hF⟩, fun L nL => ?_⟩
    have fol : ∀ {H' : Hp}, Same H1 H' → SqL K H' F ((x.fol i).map V.int) := fun s => SqL.of (s _ _ hF)
    refine lc_list (K := K) (a := F) (xs := (x.fol i).map V.int) (fun j H' => Same H1 H' ∧ ∃ us, H' L = some (.lst us) ∧ Wys H H' L us (((x.fol i).take j).map fun t => (t, x.wrt))) ⟨sN (Same.refl H1) nL, [], upd_same, rfl, fun j u e => by simp at e⟩ (fun j H' _ h => fol h.1) ?_ ?_
    · rintro j y H2 hy ⟨ss, us2, hL, W⟩
      rw [List.getElem?_map] at hy
      obtain ⟨t, et, rfl⟩ := Option.map_eq_some_iff.mp hy
      have hj : j < (x.fol i).length := (List.getElem?_eq_some_iff.mp et).1
      have s2 := sTr s1 ss
      refine ⟨rfl, _, rfl, _, rfl, v, x, rfl, dv.keep (KT.same s2), fun q1 H3 n1 h1 s3 => ?_⟩
      refine ⟨(by show 2 ≤ sizeLine; decide), fun p1 n2 => ?_⟩
      have s4 := sN s3 n2 (o := .lst [.int t, .ref q1])
      have hL4 := s4 _ _ hL
      have hq : upd H3 p1 (.lst [.int t, .ref q1]) q1 = some (.lst (x.wrt.map V.int)) := by rw [upd_ne (ne_of_none h1 n2)]; exact h1
      have nqL : q1 ≠ L := (ne_of_none hL n1).symm
      have npL : p1 ≠ L := (ne_of_none (s3 _ _ hL) n2).symm
      have wy : WyT H (upd H3 p1 (.lst [.int t, .ref q1])) L (.ref p1) t x.wrt := ⟨p1, q1, rfl, upd_same, hq, npL, nqL, none_of (sTr s2 s3) n2, none_of s2 n1⟩
      refine ⟨_, hL4, ?_, sUpd (sTr ss s4) nL, _, upd_same, ?_⟩
      · have := W.1
        simp at this
        omega
      · rw [List.take_succ, et, List.map_append]
        exact ((W.same s4).app wy).put
    · rintro H2 ⟨ss, us2, hL, W⟩
      have s2 := sTr s1 ss
      rw [List.length_map, List.take_length] at W
      have nL0 := none_of s1 nL
      have dv2 := dv.keep (KT.same s2)
      obtain ⟨pa, ys, rfl, hs, hd⟩ := dv2.ts
      obtain ⟨w0, e0, d0⟩ := hd.it 0 (d := .str x.nm) rfl
      cases d0.s
      refine ⟨(by show 13 ≤ sizeLine; decide), fun R nR => ?_⟩
      have s3 := sN (Same.refl H2) nR (o := .lst rss)
      have W3 := W.same s3
      have hL3 := s3 _ _ hL
      refine ⟨_, rfl, _, _, _, _, rfl, rfl, seqT s3 hs, e0, _, rfl, R, rss, rfl, .inl (SqL.of upd_same), rfl, (by decide +kernel), _, rfl, ite3 (fun c => ?_) (fun c => ?_)⟩
      · have hc : x.can = true := by rw [← x.canOk]; exact c
        have s23 := sTr s2 s3
        refine ⟨_, rfl, p, a.C_Unit, dx, _, _, rfl, s23 _ _ hp, T.cl_Unit, T.n_Unit_regions, un_rg _ _ _ _ _ _ _, ra, rfl, ⟨_, seqT s23 hra⟩, ?_⟩
        refine for_tup (K := K) (a := ra) (xs := ws) (fun j σ H' => H' = upd H2 R (.lst rss) ∧ (rs.take j).find? (inR (i : Int)) = none ∧ ∃ o4 o6, σ = [some (.ref p), some (.int (i : Int)), some (.ref pa), some (.ref L), o4, some (.ref R), o6]) ⟨rfl, rfl, _, _, rfl⟩ (fun j σ H' _ h => by rw [h.1]; exact seqT s23 hra) ?_ ?_
        · rintro j y σ H' hy ⟨rfl, nf, o4, o6, rfl⟩
          obtain ⟨d, ed, dx1⟩ := hws.at hy
          rw [List.getElem?_map] at ed
          obtain ⟨r, er, rfl⟩ := Option.map_eq_some_iff.mp ed
          have Rr := U.k.r r (List.mem_of_getElem? er)
          obtain ⟨pb, zs, rfl, hzs, hd2⟩ := (dx1.keep (KT.same s23)).ts
          obtain ⟨r0, r1, r2, r3, r4, e⟩ : ∃ r0 r1 r2 r3 r4, r = [r0, r1, r2, r3, r4] := by
            rcases r with _ | ⟨r0, _ | ⟨r1, _ | ⟨r2, _ | ⟨r3, _ | ⟨r4, _ | ⟨r5, r6⟩⟩⟩⟩⟩⟩
            all_goals first | exact ⟨_, _, _, _, _, rfl⟩ | (have := Rr.l; simp at this)
          subst e
          obtain rfl := hd2.ints
          have hno : inR (i : Int) [r0, r1, r2, r3, r4] = false → (rs.take (j + 1)).find? (inR (i : Int)) = none := fun e => by
            rw [List.take_succ, er, List.find?_append, nf]
            simp [e]
          have eR : inR (i : Int) [r0, r1, r2, r3, r4] = (decide (r0 ≤ (i : Int)) && decide ((i : Int) < r1)) := rfl
          refine ⟨_, rfl, _, _, _, _, rfl, rfl, hzs, atI_nat (j := 0) rfl, _, rfl, _, _, rfl, rfl, _, rfl, ?_⟩
          cases c0 : decide (r0 ≤ (i : Int)) with
          | false => exact iteF (iteF ⟨rfl, hno (by rw [eR, c0]; rfl), _, _, rfl⟩)
          | true =>
            refine iteT ⟨_, rfl, _, rfl, _, _, _, _, rfl, rfl, hzs, atI_nat (j := 1) rfl, _, _, rfl, rfl, _, rfl, ?_⟩
            cases c1 : decide ((i : Int) < r1) with
            | false => exact iteF ⟨rfl, hno (by rw [eR, c0, c1]; rfl), _, _, rfl⟩
            | true =>
              refine iteT ⟨_, rfl, .inl ⟨rfl, _, SqL.of hL3⟩, _, rfl, _, _, _, _, rfl, rfl, hzs, atI_nat (j := 2) rfl, _, rfl, _, _, _, _, rfl, rfl, hzs, atI_nat (j := 3) rfl, _, rfl, _, _, _, _, rfl, rfl, hzs, atI_nat (j := 4) rfl, (by show 2 ≤ sizeLine; decide), fun q1 n1 => ⟨(by show 2 ≤ sizeLine; decide), fun p1 n2 => ?_⟩⟩
              have s4 := sN (Same.refl (upd H2 R (.lst rss))) n1 (o := .lst [.int r3, .int r4])
              have s5 := sN s4 n2 (o := .lst [.int r2, .ref q1])
              have hL5 := s5 _ _ hL3
              have nqL : q1 ≠ L := (ne_of_none hL3 n1).symm
              have npL : p1 ≠ L := (ne_of_none (s4 _ _ hL3) n2).symm
              have hq : upd (upd (upd H2 R (.lst rss)) q1 (.lst [.int r3, .int r4])) p1 (.lst [.int r2, .ref q1]) q1 = some (.lst (([r3, r4] : List Int).map V.int)) := by rw [upd_ne (ne_of_none upd_same n2)]; exact upd_same
              have wy : WyT H (upd (upd (upd H2 R (.lst rss)) q1 (.lst [.int r3, .int r4])) p1 (.lst [.int r2, .ref q1])) L (.ref p1) r2 [r3, r4] := ⟨p1, q1, rfl, upd_same, hq, npL, nqL, none_of (sTr s23 s4) n2, none_of s23 n1⟩
              refine ⟨L, us2, _, rfl, rfl, hL5, ?_, ?_⟩
              · have := W.1
                simp at this
                omega
              refine ⟨_, rfl, q L (us2 ++ [.ref p1]) _ nL0 upd_same ?_ (sUpd (sTr s23 s5) nL0)⟩
              have : lwI x i (reI rs i) = ((x.fol i).map fun t => (t, x.wrt)) ++ [(r2, [r3, r4])] := by
                have ef : rs.find? (inR (i : Int)) = some [r0, r1, r2, r3, r4] := by
                  rw [← List.take_append_drop (j + 1) rs, List.find?_append, List.take_succ, er, List.find?_append, nf]
                  simp [eR, c0, c1]
                unfold lwI reI
                rw [ef, if_pos hc]
                rfl
              rw [this]
              exact ((W3.same s5).app wy).put
        · rintro σ H' ⟨rfl, nf, o4, o6, rfl⟩
          refine ⟨_, rfl, q L us2 _ nL0 hL3 ?_ s23⟩
          rw [show ws.length = rs.length by rw [hws.len]; simp, List.take_length] at nf
          have : lwI x i (reI rs i) = (x.fol i).map fun t => (t, x.wrt) := by unfold lwI reI; rw [nf, if_pos hc]; simp
          rw [this]
          exact W3
      · have hc : x.can = false := by rw [← x.canOk]; exact c
        refine ⟨_, rfl, q L us2 _ nL0 hL3 ?_ (sTr s2 s3)⟩
        have : lwI x i (reI rs i) = (x.fol i).map fun t => (t, x.wrt) := by unfold lwI; rw [hc]; simp
        rw [this]
        exact W3
end

/-! ### what conflicts gives, as data -/
def nuD (m : Nat) : PyData := .tuple (((nuOf m).map Int.ofNat).map .int)
def rowsD (ms : List Nat) : PyData := .tuple (ms.map nuD)
theorem KT.putD {K : PySem.W.Frag} {H : Hp} {p : Addr} {ks : List (Key × V)} {o : HO} (e : H p = some (.dK ks)) : KT K H (upd H p o) := fun a xs h => by
  rcases h with (h | ⟨u, h⟩) | h
  · exact .inl (.inl (by rw [upd_ne (ne_of h e fun z => nomatch z)]; exact h))
  · exact .inl (.inr ⟨u, by rw [upd_ne (ne_of h e fun z => nomatch z)]; exact h⟩)
  · exact .inr h
theorem bV_get {ms : List Nat} {i : Nat} {x : V} (h : (bV ms)[i]? = some x) : ∃ m, ms[i]? = some m ∧ x = .int (m : Int) := by
  unfold bV at h
  rw [List.getElem?_map] at h
  obtain ⟨m, e, rfl⟩ := Option.map_eq_some_iff.mp h
  exact ⟨m, e, rfl⟩

/-! ### shapes of what is compared -/
def Sh (n : Nat) (d : PyData) : Prop := d.canLay0 = true ∧ d.depth ≤ n
theorem Sh.mono {n m : Nat} {d : PyData} (h : Sh n d) (l : n ≤ m) : Sh m d := ⟨h.1, Nat.le_trans h.2 l⟩
theorem sh_all {n : Nat} : ∀ {ds : List PyData}, (∀ d ∈ ds, Sh n d) → PyData.canLayAll0 ds = true ∧ PyData.depthAll ds ≤ n
  | [], _ => ⟨rfl, Nat.zero_le _⟩
  | d :: ds, h => by
    obtain ⟨h1, h2⟩ := sh_all (ds := ds) fun e he => h e (List.mem_cons_of_mem _ he)
    obtain ⟨g1, g2⟩ := h d (List.mem_cons_self ..)
    unfold PyData.canLayAll0 PyData.depthAll
    rw [g1, h1]
    exact ⟨rfl, Nat.max_le.mpr ⟨g2, h2⟩⟩
theorem sh_tup {n : Nat} {ds : List PyData} (h : ∀ d ∈ ds, Sh n d) : Sh (n + 1) (.tuple ds) := by
  obtain ⟨h1, h2⟩ := sh_all h
  refine ⟨by unfold PyData.canLay0; exact h1, ?_⟩
  unfold PyData.depth
  omega
theorem sh_int (i : Int) : Sh 0 (.int i) := ⟨by unfold PyData.canLay0; rfl, by unfold PyData.depth; exact Nat.le_refl _⟩
theorem sh_ints (l : List Int) : Sh 1 (.tuple (l.map .int)) := sh_tup fun d hd => by
  obtain ⟨i, _, rfl⟩ := List.mem_map.mp hd
  exact sh_int i
theorem sh_str {x : Str} (h : PyData.canLay0 (.str x) = true) : Sh 0 (.str x) := ⟨h, by unfold PyData.depth; exact Nat.le_refl _⟩
theorem sh_nm (x : In) : Sh 0 (.str x.nm) := sh_str (by
  cases x with
  | un k d x p => dsimp only [In.nm]; unfold PyData.canLay0; revert k; decide +kernel
  | cm k d x y => dsimp only [In.nm]; unfold PyData.canLay0; revert k; decide +kernel
  | bi k d x y p => dsimp only [In.nm]; unfold PyData.canLay0; revert k; decide +kernel
  | _ => dsimp only [In.nm]; unfold PyData.canLay0; decide +kernel)
theorem sh_op {r : Int} {g : Op} (h : In.OpOk r g) : Sh 1 (opD g) := by
  have : Sh 0 (.str g.1) := by
    rcases h with h | h
    · rw [h]; exact sh_str (by unfold PyData.canLay0; decide +kernel)
    · rw [h.1]; exact sh_str (by unfold PyData.canLay0; decide +kernel)
  refine sh_tup fun d hd => ?_
  simp only [List.mem_cons, List.not_mem_nil, or_false] at hd
  rcases hd with rfl | rfl
  · exact this
  · exact sh_int _
theorem sh_ops {r : Int} {gs : List Op} (h : ∀ g ∈ gs, In.OpOk r g) : Sh 2 (.tuple (gs.map opD)) := sh_tup fun d hd => by
  obtain ⟨g, hg, rfl⟩ := List.mem_map.mp hd
  exact sh_op (h g hg)
theorem sh_ds {r : Int} (x : In) (h : ∀ g ∈ x.ops, In.OpOk r g) : ∀ d ∈ x.ds, Sh 2 d := by
  have I : ∀ i, Sh 2 (.int i) := fun i => (sh_int i).mono (by omega)
  have O : ∀ g, g ∈ x.ops → Sh 2 (opD g) := fun g hg => (sh_op (h g hg)).mono (by omega)
  intro d hd
  cases x with
  | ca o h' xs rs p =>
    simp only [In.ds, List.mem_cons, List.not_mem_nil, or_false] at hd
    rcases hd with rfl | rfl | rfl | rfl | rfl
    · exact I _
    · exact I _
    · exact sh_ops h
    · exact (sh_ints rs).mono (by omega)
    · exact I _
  | ti => exact absurd hd (by simp [In.ds])
  | re xs =>
    simp only [In.ds, List.mem_cons, List.not_mem_nil, or_false] at hd
    rw [hd]
    exact sh_ops h
  | _ =>
    simp only [In.ds, List.mem_cons, List.not_mem_nil, or_false] at hd
    repeat' (refine Or.elim hd (fun hd => ?_) (fun hd => ?_))
    all_goals (rw [hd]; first | exact I _ | exact O _ (by simp [In.ops]))
theorem sh_D {r : Int} (x : In) (h : ∀ g ∈ x.ops, In.OpOk r g) : Sh 3 x.D := sh_tup fun d hd => by
  rcases List.mem_cons.mp hd with rfl | hd
  · exact (sh_nm x).mono (by omega)
  · exact sh_ds x h d hd
theorem sh_code {g : Int} {xs : List In} {rs : List (List Int)} (U : UnOk g xs rs) : Sh 4 (.tuple (xs.map In.D)) := sh_tup fun d hd => by
  obtain ⟨x, hx, rfl⟩ := List.mem_map.mp hd
  obtain ⟨i, hi⟩ := List.mem_iff_getElem?.mp hx
  exact sh_D x (U.x i x hi).o
theorem sh_rows (ms : List Nat) : Sh 2 (rowsD ms) := sh_tup fun d hd => by
  obtain ⟨m, _, rfl⟩ := List.mem_map.mp hd
  exact sh_ints _
theorem Sh.shaped {n : Nat} {d : PyData} (h : Sh n d) (l : n ≤ 64) : SeqAt.shaped d = true := by
  unfold SeqAt.shaped
  rw [h.1, decide_eq_true (Nat.le_trans h.2 l)]
  rfl
theorem eqv_self {n : Nat} {d : PyData} (h : Sh n d) : PyData.eqv d d = true := SeqAt.eqv_refl _ h.1

/-! ### rows of truth values -/
structure Rw (H0 H' : Hp) (L : Addr) (n : Nat) (ps : Nat → Addr) (c : Nat → List Bool) : Prop where
  o : H' L = some (.lst ((List.range n).map fun k => V.ref (ps k)))
  r : ∀ k, k < n → H' (ps k) = some (.lst ((c k).map V.bl))
  f : ∀ k, k < n → H0 (ps k) = none ∧ ps k ≠ L
  i : ∀ j k, j < n → k < n → ps j = ps k → j = k
  z : H0 L = none
theorem Rw.new {H0 H' : Hp} {L q : Addr} {n : Nat} {ps : Nat → Addr} {c : Nat → List Bool} {o : HO} (h : Rw H0 H' L n ps c) (nq : H' q = none) : Rw H0 (upd H' q o) L n ps c :=
  ⟨by rw [upd_ne (ne_of_none h.o nq)]; exact h.o, fun k hk => by rw [upd_ne (ne_of_none (h.r k hk) nq)]; exact h.r k hk, h.f, h.i, h.z⟩
theorem Rw.same {H0 H' H'' : Hp} {L : Addr} {n : Nat} {ps : Nat → Addr} {c : Nat → List Bool} (h : Rw H0 H' L n ps c) (s : Same H' H'') : Rw H0 H'' L n ps c :=
  ⟨s _ _ h.o, fun k hk => s _ _ (h.r k hk), h.f, h.i, h.z⟩
theorem Rw.set {H0 H' : Hp} {L : Addr} {n t : Nat} {ps : Nat → Addr} {c : Nat → List Bool} {v : List Bool} (h : Rw H0 H' L n ps c) (ht : t < n) : Rw H0 (upd H' (ps t) (.lst (v.map V.bl))) L n ps (fun j => if j = t then v else c j) :=
  ⟨by rw [upd_ne (h.f t ht).2.symm]; exact h.o, fun k hk => by
    by_cases q : k = t
    · rw [q, upd_same, if_pos rfl]
    · rw [upd_ne (fun z => q (h.i k t hk ht z)), if_neg q]; exact h.r k hk, h.f, h.i, h.z⟩
/-- one row more -/
theorem Rw.grow {H0 H' : Hp} {L b : Addr} {n : Nat} {ps : Nat → Addr} {c : Nat → List Bool} {v : List Bool} (h : Rw H0 H' L n ps c) (hb : H' b = some (.lst (v.map V.bl))) (n0 : H0 b = none) (nbL : b ≠ L) (hp : ∀ k, k < n → ps k ≠ b) :
    Rw H0 (upd H' L (.lst (((List.range n).map fun k => V.ref (ps k)) ++ [V.ref b]))) L (n + 1) (fun k => if k = n then b else ps k) (fun k => if k = n then v else c k) := by
  have ml : ((List.range n).map fun k => V.ref (if k = n then b else ps k)) = (List.range n).map fun k => V.ref (ps k) := List.map_congr_left fun k hk => by rw [if_neg (by have := List.mem_range.mp hk; omega)]
  refine ⟨by rw [upd_same, List.range_succ, List.map_append, ml, List.map_cons, List.map_nil, if_pos rfl], fun k hk => ?_, fun k hk => ?_, fun j k hj hk e => ?_, h.z⟩
  · by_cases e : k = n
    · rw [if_pos e, if_pos e, upd_ne nbL]; exact hb
    · rw [if_neg e, if_neg e, upd_ne (h.f k (by omega)).2]; exact h.r k (by omega)
  · by_cases e : k = n
    · rw [if_pos e]; exact ⟨n0, nbL⟩
    · rw [if_neg e]; exact h.f k (by omega)
  · by_cases e1 : j = n
    · by_cases e2 : k = n
      · omega
      · rw [if_pos e1, if_neg e2] at e
        exact absurd e.symm (hp k (by omega))
    · by_cases e2 : k = n
      · rw [if_neg e1, if_pos e2] at e
        exact absurd e (hp j (by omega))
      · rw [if_neg e1, if_neg e2] at e
        exact h.i j k (by omega) (by omega) e
theorem Rw.zero {H : Hp} {L : Addr} {ps : Nat → Addr} {c : Nat → List Bool} (n : H L = none) : Rw H (upd H L (.lst [])) L 0 ps c :=
  ⟨by rw [upd_same]; rfl, fun k hk => absurd hk (by omega), fun k hk => absurd hk (by omega), fun k _ hk => absurd hk (by omega), n⟩
theorem Rw.sm {H0 H1 H' : Hp} {L : Addr} {n : Nat} {ps : Nat → Addr} {c : Nat → List Bool} {t : Nat} {o : HO} (h : Rw H0 H' L n ps c) (s : Same H0 H') (ht : t < n) : Same H0 (upd H' (ps t) o) := sUpd s (h.f t ht).1
/-! ### the law's own liveness: rows that grow -/
def rb (c : Nat → List Bool) (i k : Nat) : Bool := (c i).getD k false
def fR (c : Nat → List Bool) : Bf := fun t k => rb c t.toNat k
def cnt (n g : Nat) (c : Nat → List Bool) : Nat := (List.range (n * g)).countP fun p => rb c (p / g) (p % g)
theorem cnt_le (n g : Nat) (c : Nat → List Bool) : cnt n g c ≤ n * g := Nat.le_trans List.countP_le_length (by simp)
theorem fR_nat (c : Nat → List Bool) (i k : Nat) : fR c (i : Int) k = rb c i k := by
  unfold fR
  rw [Int.toNat_natCast]
structure LL (xs : List In) (rs : List (List Int)) (g : Nat) (c : Nat → List Bool) : Prop where
  l : ∀ i, i < xs.length → (c i).length = g
  d : ∀ (i : Nat) (x : In), xs[i]? = some x → ∀ k, k < g → (k : Int) ∈ x.rdI → rb c i k = true
  m : ∀ f, Clo xs rs f → ∀ i k, i < xs.length → rb c i k = true → f (i : Int) k = true
/-- nothing to grow at a way -/
def Still (c : Nat → List Bool) (i k : Nat) (w : Int × List Int) : Prop := fR c w.1 k = true → (k : Int) ∉ w.2 → rb c i k = true
def upc (c : Nat → List Bool) (i k : Nat) : Nat → List Bool := fun j => if j = i then (c i).set k true else c j
theorem rb_up {c : Nat → List Bool} {i k j m : Nat} (h : k < (c i).length) : rb (upc c i k) j m = if j = i ∧ m = k then true else rb c j m := by
  unfold rb upc
  by_cases e : j = i
  · subst e
    rw [if_pos rfl]
    by_cases e2 : m = k
    · subst e2
      rw [if_pos ⟨rfl, rfl⟩, List.getD_eq_getElem?_getD, List.getElem?_set_self h]
      rfl
    · rw [if_neg (fun z => e2 z.2), List.getD_eq_getElem?_getD, List.getElem?_set_ne (Ne.symm e2), List.getD_eq_getElem?_getD]
  · rw [if_neg e, if_neg (fun z => e z.1)]
theorem LL.up {xs : List In} {rs : List (List Int)} {g : Nat} {c : Nat → List Bool} {i k : Nat} {x : In} {w : Int × List Int} (W : Wel xs rs g) (h : LL xs rs g c) (ex : xs[i]? = some x) (hk : k < g) (hw : w ∈ lwI x i (reI rs i)) (h1 : fR c w.1 k = true) (h2 : (k : Int) ∉ w.2) (h3 : rb c i k = false) :
    LL xs rs g (upc c i k) ∧ cnt xs.length g c < cnt xs.length g (upc c i k) := by
  have hi : i < xs.length := (List.getElem?_eq_some_iff.mp ex).1
  have hl : k < (c i).length := by rw [h.l i hi]; exact hk
  have R := fun j m => rb_up (j := j) (m := m) hl
  refine ⟨⟨fun j hj => ?_, fun j y ey m hm hd => ?_, fun f cf j m hj e => ?_⟩, ?_⟩
  · unfold upc
    split
    · rw [List.length_set]; exact h.l i hi
    · exact h.l j hj
  · rw [R]
    split
    · rfl
    · exact h.d j y ey m hm hd
  · rw [R] at e
    split at e
    · rename_i z
      obtain ⟨rfl, rfl⟩ := z
      refine cf j x ex m (stB_lw.mpr (.inr ⟨w, hw, ?_, h2⟩))
      obtain ⟨t, l⟩ := w
      have tw : t ∈ wyI x j (reI rs j) := by
        unfold lwI at hw
        unfold wyI enI
        rcases List.mem_append.mp hw with z | z
        · obtain ⟨t', ht, e⟩ := List.mem_map.mp z
          injection e with e1 e2
          rw [← e1]
          exact List.mem_append.mpr (.inl ht)
        · refine List.mem_append.mpr (.inr ?_)
          by_cases hc : x.can = true
          · rw [if_pos hc] at z ⊢
            cases r : reI rs j with
            | none => rw [r] at z; exact absurd z (by simp)
            | some q =>
              rw [r] at z
              have := List.mem_singleton.mp z
              injection this with e1 e2
              rw [e1]
              exact List.mem_singleton.mpr rfl
          · rw [if_neg hc] at z
            exact absurd z (by simp)
      obtain ⟨t0, t1⟩ := W.w j x ex t tw
      obtain ⟨n, rfl⟩ := Int.eq_ofNat_of_zero_le t0
      rw [fR_nat] at h1
      exact h.m f cf n m (by omega) h1
    · exact h.m f cf j m hj e
  · have d1 : (i * g + k) / g = i := by rw [Nat.mul_comm, Nat.mul_add_div (by omega), Nat.div_eq_of_lt hk, Nat.add_zero]
    have d2 : (i * g + k) % g = k := by rw [Nat.mul_comm, Nat.mul_add_mod, Nat.mod_eq_of_lt hk]
    refine countP_lt (fun p _ hp => ?_) (i * g + k) (List.mem_range.mpr ?_) ?_ ?_
    · rw [R]
      split
      · rfl
      · exact hp
    · have : (i + 1) * g ≤ xs.length * g := Nat.mul_le_mul_right _ hi
      rw [Nat.add_mul] at this
      omega
    · show rb (upc c i k) ((i * g + k) / g) ((i * g + k) % g) = true
      rw [d1, d2, R, if_pos ⟨rfl, rfl⟩]
    · show rb c ((i * g + k) / g) ((i * g + k) % g) = false
      rw [d1, d2]
      exact h3
/-- rows at rest are the least solution -/
theorem LL.fin {xs : List In} {rs : List (List Int)} {g : Nat} {c : Nat → List Bool} {ms : List Nat} (W : Wel xs rs g) (h : LL xs rs g c) (st : ∀ (i : Nat) (x : In), xs[i]? = some x → ∀ w ∈ lwI x i (reI rs i), ∀ k, k < g → Still c i k w) (lv : Liv xs rs ms) : ∀ i k, i < xs.length → k < g → rb c i k = (ms.getD i 0).testBit k := by
  have C : Clo xs rs fun t k => fR c t k || !decide (k < g) := fun i x ex k e => by
    show (fR c (i : Int) k || !decide (k < g)) = true
    by_cases hk : k < g
    · rw [decide_eq_true hk, fR_nat, Bool.not_true, Bool.or_false]
      rcases stB_lw.mp e with z | ⟨w, hw, z1, z2⟩
      · exact h.d i x ex k hk z
      · replace z1 : (fR c w.1 k || !decide (k < g)) = true := z1
        rw [decide_eq_true hk, Bool.not_true, Bool.or_false] at z1
        exact st i x ex w hw k hk z1 z2
    · rw [decide_eq_false hk]
      simp
  intro i k hi hk
  rw [Bool.eq_iff_iff]
  constructor
  · intro e
    have := h.m _ lv.clo i k hi e
    rw [bF_nat] at this
    exact this
  · intro e
    have : (fR c (i : Int) k || !decide (k < g)) = true := lv.le _ C i k hi e
    rw [decide_eq_true hk, Bool.not_true, Bool.or_false, fR_nat] at this
    exact this

/-! ### found[number] |= others -/
section
variable {X : Cx}
def rGL (K : PySem.W.Frag) : V → V → Hp → VK → Prop := fun x y H Q => ∃ (p : Addr) (xs : List V) (i : Nat) (v : V), x = .ref p ∧ y = .int (i : Int) ∧ SqL K H p xs ∧ xs[i]? = some v ∧ Q v H
theorem pg_ixl : PGet X (rGL X.K) := by
  intro pins s σ H o i ov iv Q I ro ri h
  obtain ⟨p, xs, j, v, rfl, rfl, hq, e, q⟩ := h
  cases ro
  obtain ⟨t, rfl⟩ := ri
  obtain ⟨its, r, pl, hz⟩ := I.list hq
  obtain ⟨w, ew, rw'⟩ := r.get e
  have hj := (List.getElem?_eq_some_iff.mp e).1
  have hs := sizeLine_eq
  exact wpAny_getItem_list pl.isList (Int.natCast_nonneg j) (by omega) (by simpa using ew) ⟨v, H, I, rw', q⟩
end
def gb (fs : List Nat) (i j : Nat) : Bool := (fs.getD i 0).testBit j
theorem gb_set {fs : List Nat} {i k j m : Nat} (hi : i < fs.length) : gb (fs.set i m) k j = if k = i then m.testBit j else gb fs k j := by
  unfold gb
  rw [getD_set fs i k m hi]
  split <;> rfl
theorem bV_at {fs : List Nat} {i : Nat} (h : i < fs.length) : (bV fs)[i]? = some (V.int ((fs.getD i 0 : Nat) : Int)) := by
  unfold bV
  rw [List.getElem?_map]
  simp [h]
theorem bV_set (fs : List Nat) (i m : Nat) : (bV fs).set i (V.int (m : Int)) = bV (fs.set i m) := by
  unfold bV
  rw [List.map_set]
theorem bV_len (fs : List Nat) : (bV fs).length = fs.length := by simp [bV]
/-- writes at F alone -/
def FrF (F : Addr) (H H' : Hp) : Prop := ∀ b o, H b = some o → b ≠ F → H' b = some o
def spAdd (K : PySem.W.Frag) : Sp := fun vs H Q _ => ∃ (F : Addr) (fs : List Nat) (sm ot : Nat), vs = [.ref F, .int (sm : Int), .int (ot : Int)] ∧ H F = some (.lst (bV fs)) ∧ (∀ k, sm.testBit k = true → k < fs.length) ∧ fs.length ≤ 1000 ∧
  ∀ (fs' : List Nat) (H' : Hp), H' F = some (.lst (bV fs')) → fs'.length = fs.length → (∀ i j, gb fs' i j = (gb fs i j || (sm.testBit i && ot.testBit j))) → FrF F H H' → Q .non H'
def spBoth (K : PySem.W.Frag) : Sp := fun vs H Q _ => ∃ (F : Addr) (fs : List Nat), vs = [.ref F] ∧ H F = some (.lst (bV fs)) ∧ (∀ i j, gb fs i j = true → j < fs.length) ∧ fs.length ≤ 1000 ∧
  ∀ (L : Addr) (fs' : List Nat) (H' : Hp), H' L = some (.lst (bV fs')) → fs'.length = fs.length → (∀ i j, i < fs.length → gb fs' i j = (!decide (i = j) && (gb fs i j || gb fs j i))) → Same H H' → Q (.ref L) H'
theorem mem_nu2 {m k : Nat} : k ∈ nuOf m ↔ m.testBit k = true := mem_nu
section
variable {P : Program} {w : World} {K : PySem.W.Frag} {mg : Str → Option Value} {base : Heap} {a : Ad}
theorem ok_add_conflicts (T : Txt K mg a) : FnOk P w K mg base CX0 2 a.f_add_conflicts a.d_add_conflicts ["found", "some", "others"] (spAdd K) := by
  have G_numbers_of : FnOk P w K mg base CX0 1 _ _ _ _ := ok_numbers_of T
  refine T.F__add_conflicts.ok sc_add_conflicts (fun vs H Q E h => ?_) (fun cdv A outer s H vs Q E hr h => ?_)
  · obtain ⟨_, _, _, _, rfl, _⟩ := h; rfl
  · obtain ⟨F, fs, sm, ot, rfl, hF, hs, hl, q⟩ := h
    refine ⟨_, (pss_one (ps_for PassesOwn.never rfl (pi_tup (pe_call G_numbers_of (hr.mono (by decide)) rfl T.g_numbers_of T.k_numbers_of T.bd_numbers_of .nil pass0 (pa_cons (pv 1) pa_nil))) (pg_name (i := 3) sc_add_conflicts.nd rfl (Or.inl rfl)) (pss_one (ps_augS (pv 0) (pv 3) My.pg_ixl (pv 2) My.ip_or set_list)))), ?_⟩
    have hb : Builtin.Int.intBits (sm : Int) ≤ 1000 := Nat.le_trans (bits_le hs) hl
    refine ⟨_, rfl, sm, rfl, hb, fun u H1 du s1 => ?_⟩
    obtain ⟨pa, zs, rfl, hzs, hd⟩ := du.ts
    obtain rfl := hd.ints
    have hF1 := s1 _ _ hF
    have tup : ∀ {H' : Hp}, FrF F H1 H' → SqT K H' pa (((nuOf sm).map Int.ofNat).map V.int) := fun fr => by
      have k : KT K H1 _ := fun b ys h => by
        rcases h with (h | ⟨u, h⟩) | h
        · exact .inl (.inl (fr _ _ h (ne_of h hF1 fun z => nomatch z)))
        · exact .inl (.inr ⟨u, fr _ _ h (ne_of h hF1 fun z => nomatch z)⟩)
        · exact .inr h
      exact k _ _ hzs
    refine ⟨pa, rfl, ⟨_, hzs⟩, ?_⟩
    refine for_tup (K := K) (a := pa) (xs := ((nuOf sm).map Int.ofNat).map V.int) (fun i σ H' => ∃ (fs' : List Nat) (o3 : Option V), σ = [some (.ref F), some (.int (sm : Int)), some (.int (ot : Int)), o3] ∧ H' F = some (.lst (bV fs')) ∧ fs'.length = fs.length ∧ (∀ i' j, gb fs' i' j = (gb fs i' j || (decide (i' ∈ (nuOf sm).take i) && ot.testBit j))) ∧ FrF F H1 H') ⟨fs, _, rfl, hF1, rfl, fun i' j => by simp, fun b o e _ => e⟩ (fun i σ H' _ ⟨_, _, _, _, _, _, fr⟩ => tup fr) ?_ ?_
    · rintro i y σ H2 hy ⟨fs', o3, rfl, hF2, hl2, hg, fr⟩
      rw [List.map_map, List.getElem?_map] at hy
      obtain ⟨k, ek, rfl⟩ := Option.map_eq_some_iff.mp hy
      have hk : k < fs'.length := by rw [hl2]; exact hs k (mem_nu.mp (List.mem_of_getElem? ek))
      refine ⟨_, rfl, _, rfl, F, _, k, _, rfl, rfl, SqL.of hF2, bV_at hk, _, rfl, ((fs'.getD k 0 : Nat) : Int), (ot : Int), rfl, rfl, F, _, (k : Int), k, rfl, rfl, hF2, ixN_nat (by rw [bV_len]; exact hk), ?_⟩
      dsimp only
      rw [or_cast, bV_set]
      refine ⟨fs'.set k (fs'.getD k 0 ||| ot), _, rfl, upd_same, by rw [List.length_set]; exact hl2, fun i' j => ?_, fun b o e ne => by rw [upd_ne ne]; exact fr b o e ne⟩
      rw [gb_set hk]
      have e0 := hg i' j
      by_cases c : i' = k
      · subst c
        rw [if_pos rfl, Nat.testBit_or]
        have e1 : (fs'.getD i' 0).testBit j = gb fs' i' j := rfl
        rw [e1, e0, List.take_succ, ek]
        have e2 : decide (i' ∈ (nuOf sm).take i ++ (some i').toList) = true := decide_eq_true (by simp)
        rw [e2]
        cases gb fs i' j <;> cases decide (i' ∈ (nuOf sm).take i) <;> cases ot.testBit j <;> rfl
      · rw [if_neg c, e0, List.take_succ, ek]
        have e2 : decide (i' ∈ (nuOf sm).take i ++ (some k).toList) = decide (i' ∈ (nuOf sm).take i) := decide_eq_decide.mpr (by simp [c])
        rw [e2]
    · rintro σ H2 ⟨fs', o3, rfl, hF2, hl2, hg, fr⟩
      refine q fs' H2 hF2 hl2 (fun i j => ?_) (fun b o e ne => fr b o (s1 b o e) ne)
      rw [hg i j, List.length_map, List.length_map, List.take_length]
      have : decide (i ∈ nuOf sm) = sm.testBit i := by
        rw [Bool.eq_iff_iff, decide_eq_true_eq]
        exact mem_nu
      rw [this]
end

section
variable {P : Program} {w : World} {K : PySem.W.Frag} {mg : Str → Option Value} {base : Heap} {a : Ad}
theorem shl_one (n : Nat) : (1 : Int) * 2 ^ ((n : Int)).toNat = ((2 ^ n : Nat) : Int) := by
  rw [Int.one_mul, Int.toNat_natCast, PySem.W.kbt_cast]
theorem ok_in_both_ways (T : Txt K mg a) : FnOk P w K mg base CX0 2 a.f_in_both_ways a.d_in_both_ways ["found"] (spBoth K) := by
  have G_numbers_of : FnOk P w K mg base CX0 1 _ _ _ _ := ok_numbers_of T
  refine T.F__in_both_ways.ok sc_in_both_ways (fun vs H Q E h => ?_) (fun cdv A outer s H vs Q E hr h => ?_)
  · obtain ⟨_, _, rfl, _⟩ := h; rfl
  · obtain ⟨F, fs, rfl, hF, hb, hl, q⟩ := h
    have hz := sizeLine_eq
    refine ⟨_, (pss_cons (ps_set (i := 1) sc_in_both_ways.nd rfl (Or.inl rfl) (pe_callTy call_list_of (by rfl) T.b_list (by decide +kernel) (pa_cons (pv 0) pa_nil)))
      (pss_cons (ps_for PassesOwn.never rfl (pi_enum rfl T.b_enumerate (pa_cons (pv 0) pa_nil)) (pg_tup rfl (pgs_cons (pg_name (i := 2) sc_in_both_ways.nd rfl (Or.inl rfl)) (pgs_cons (pg_name (i := 3) sc_in_both_ways.nd rfl (Or.inl rfl)) pgs_nil))) (pss_one (ps_for PassesOwn.never rfl (pi_tup (pe_call G_numbers_of (hr.mono (by decide)) rfl T.g_numbers_of T.k_numbers_of T.bd_numbers_of .nil pass0 (pa_cons (pv 3) pa_nil))) (pg_name (i := 4) sc_in_both_ways.nd rfl (Or.inl rfl)) (pss_one (ps_augS (pv 1) (pv 4) My.pg_ixl (pe_op op_shl pe_int (pv 2)) My.ip_or set_list)))))
      (pss_one (ps_ret (pe_lc (own := [("number", 2), ("mask", 3)]) (g := gTup K 2 (gCons (gName 2) (gCons (gName 3) (gNil)))) rfl sc_in_both_ways.nd (pi_enum rfl T.b_enumerate (pa_cons (pv 1) pa_nil)) (blkOk_by (own := [("number", 2), ("mask", 3)]) (N := ["found", "both", "number", "mask", "other"]) (sc := defScope s_in_both_ways) (by decide +kernel)) (fun _ _ _ _ _ => pg_tup rfl (pgs_cons (pg_name (i := 2) sc_in_both_ways.nd rfl (Or.inl rfl)) (pgs_cons (pg_name (i := 3) sc_in_both_ways.nd rfl (Or.inl rfl)) (pgs_nil)))) (fun _ _ _ _ _ => pts_nil) (fun _ _ _ _ _ => (pe_op op_and (pv 3) (pe_un un_inv (pe_op op_shl pe_int (pv 2)))))))))), ?_⟩
    refine ⟨_, rfl, F, _, rfl, .inl (SqL.of hF), fun B nB => ?_⟩
    have s1 := sN (Same.refl H) nB (o := .lst (bV fs))
    have eF : (bV fs).length = fs.length := bV_len fs
    refine ⟨_, rfl, F, _, rfl, SqL.of (s1 _ _ hF), ?_⟩
    refine for_it (walk_enum (K := K) (a := F) (xs := bV fs)) (fun i σ H' => ∃ (bs : List Nat) (o2 o3 o4 : Option V), σ = [some (.ref F), some (.ref B), o2, o3, o4] ∧ H' B = some (.lst (bV bs)) ∧ bs.length = fs.length ∧ (∀ a' j, gb bs a' j = (gb fs a' j || (decide (j < i) && gb fs j a'))) ∧ Same H H') ⟨fs, _, _, _, rfl, upd_same, rfl, fun a' j => by simp, s1⟩ (fun i σ H' _ ⟨_, _, _, _, _, _, _, _, ss⟩ => SqL.of (ss _ _ hF)) ?_ ?_
    · rintro i y σ H2 H3 hi ⟨bs, o2, o3, o4, rfl, hB, lB, hg, ss⟩ ⟨T2, x2, y2, rfl, nT, rfl, ex, ey⟩
      obtain rfl := Option.some.inj ex
      have hi' : i < fs.length := by rw [← eF]; exact hi
      replace ey : (bV fs)[i]? = some y2 := ey
      rw [bV_at hi'] at ey
      obtain rfl := Option.some.inj ey
      have s2 := sN ss nT (o := .tup [.int (i : Nat), .int ((fs.getD i 0 : Nat) : Int)])
      have hB2 : upd H2 T2 (.tup [.int (i : Nat), .int ((fs.getD i 0 : Nat) : Int)]) B = some (.lst (bV bs)) := by rw [upd_ne (ne_of_none hB nT)]; exact hB
      refine ⟨T2, _, rfl, SqT.of upd_same, rfl, _, _, rfl, _, _, rfl, rfl, ?_⟩
      generalize upd H2 T2 (.tup [.int (i : Nat), .int ((fs.getD i 0 : Nat) : Int)]) = H3 at s2 hB2
      have hb2 : ∀ k, (fs.getD i 0).testBit k = true → k < fs.length := fun k hk => hb i k hk
      refine ⟨_, rfl, fs.getD i 0, rfl, Nat.le_trans (bits_le hb2) hl, fun u H4 du s3 => ?_⟩
      obtain ⟨pa, zs, rfl, hzs, hd⟩ := du.ts
      obtain rfl := hd.ints
      have hB4 := s3 _ _ hB2
      have s4 := sTr s2 s3
      have tup : ∀ {H' : Hp}, FrF B H4 H' → SqT K H' pa (((nuOf (fs.getD i 0)).map Int.ofNat).map V.int) := fun fr => by
        have k : KT K H4 _ := fun b ys h => by
          rcases h with (h | ⟨u, h⟩) | h
          · exact .inl (.inl (fr _ _ h (ne_of h hB4 fun z => nomatch z)))
          · exact .inl (.inr ⟨u, fr _ _ h (ne_of h hB4 fun z => nomatch z)⟩)
          · exact .inr h
        exact k _ _ hzs
      refine ⟨pa, rfl, ⟨_, hzs⟩, ?_⟩
      refine for_tup (K := K) (a := pa) (xs := ((nuOf (fs.getD i 0)).map Int.ofNat).map V.int) (fun c σ H' => ∃ (bs' : List Nat) (o4 : Option V), σ = [some (.ref F), some (.ref B), some (.int (i : Nat)), some (.int ((fs.getD i 0 : Nat) : Int)), o4] ∧ H' B = some (.lst (bV bs')) ∧ bs'.length = fs.length ∧ (∀ a' j, gb bs' a' j = (gb bs a' j || (decide (j = i) && decide (a' ∈ (nuOf (fs.getD i 0)).take c)))) ∧ FrF B H4 H') ⟨bs, _, rfl, hB4, lB, fun a' j => by simp, fun b o e _ => e⟩ (fun c σ H' _ ⟨_, _, _, _, _, _, fr⟩ => tup fr) ?_ ?_
      · rintro c y σ H5 hy ⟨bs', o4, rfl, hB5, l5, h5, fr⟩
        rw [List.map_map, List.getElem?_map] at hy
        obtain ⟨k, ek, rfl⟩ := Option.map_eq_some_iff.mp hy
        have hk : k < bs'.length := by rw [l5]; exact hb2 k (mem_nu.mp (List.mem_of_getElem? ek))
        refine ⟨_, rfl, _, rfl, B, _, k, _, rfl, rfl, SqL.of hB5, bV_at hk, _, rfl, 1, (i : Int), rfl, rfl, ⟨by omega, by omega, by decide⟩, ((bs'.getD k 0 : Nat) : Int), _, rfl, rfl, B, _, (k : Int), k, rfl, rfl, hB5, ixN_nat (by rw [bV_len]; exact hk), ?_⟩
        dsimp only
        rw [shl_one, or_cast, bV_set]
        refine ⟨bs'.set k (bs'.getD k 0 ||| 2 ^ i), _, rfl, upd_same, by rw [List.length_set]; exact l5, fun a' j => ?_, fun b o e ne => by rw [upd_ne ne]; exact fr b o e ne⟩
        rw [gb_set hk]
        have e0 := h5 a' j
        by_cases cc : a' = k
        · subst cc
          rw [if_pos rfl, Nat.testBit_or, Nat.testBit_two_pow]
          have e1 : (bs'.getD a' 0).testBit j = gb bs' a' j := rfl
          rw [e1, e0, List.take_succ, ek]
          have e2 : decide (a' ∈ (nuOf (fs.getD i 0)).take c ++ (some a').toList) = true := decide_eq_true (by simp)
          have e3 : decide (i = j) = decide (j = i) := decide_eq_decide.mpr (by omega)
          rw [e2, e3]
          cases gb bs a' j <;> cases decide (a' ∈ (nuOf (fs.getD i 0)).take c) <;> cases decide (j = i) <;> rfl
        · rw [if_neg cc, e0, List.take_succ, ek]
          have e2 : decide (a' ∈ (nuOf (fs.getD i 0)).take c ++ (some k).toList) = decide (a' ∈ (nuOf (fs.getD i 0)).take c) := decide_eq_decide.mpr (by simp [cc])
          rw [e2]
      · rintro σ H5 ⟨bs', o4, rfl, hB5, l5, h5, fr⟩
        refine ⟨bs', _, _, _, rfl, hB5, l5, fun a' j => ?_, fun b o e => fr b o (s4 b o e) (ne_of_none e nB)⟩
        rw [h5, hg, List.length_map, List.length_map, List.take_length]
        have e1 : decide (a' ∈ nuOf (fs.getD i 0)) = gb fs i a' := by
          rw [Bool.eq_iff_iff, decide_eq_true_eq]
          exact mem_nu
        rw [e1]
        by_cases cc : j = i
        · subst cc
          rw [decide_eq_true (rfl : j = j), decide_eq_false (by omega : ¬ j < j), decide_eq_true (by omega : j < j + 1)]
          cases gb fs a' j <;> cases gb fs j a' <;> rfl
        · rw [decide_eq_false cc]
          have : decide (j < i + 1) = decide (j < i) := decide_eq_decide.mpr (by omega)
          rw [this]
          simp
    · rintro σ H2 ⟨bs, o2, o3, o4, rfl, hB, lB, hg, ss⟩
      rw [eF] at hg
      refine ⟨_, rfl, B, _, rfl, SqL.of hB, fun L nL => ?_⟩
      have eB : (bV bs).length = fs.length := by rw [bV_len, lB]
      refine lc_it (walk_enum (K := K) (a := B) (xs := bV bs)) (fun i H' => ∃ ns : List Nat, H' L = some (.lst (bV ns)) ∧ ns.length = i ∧ (∀ a' j, a' < i → gb ns a' j = (gb bs a' j && !decide (a' = j))) ∧ Same H2 H') ⟨[], upd_same, rfl, fun a' j h => absurd h (by omega), sN (Same.refl H2) nL⟩ (fun i H' _ ⟨_, _, _, _, s⟩ => SqL.of (s _ _ hB)) ?_ ?_
      · rintro i y H3 H4 hi ⟨ns, hL, lL, hn, s5⟩ ⟨T2, x2, y2, rfl, nT, rfl, ex, ey⟩
        obtain rfl := Option.some.inj ex
        have hi' : i < bs.length := by rw [lB, ← eB]; exact hi
        replace ey : (bV bs)[i]? = some y2 := ey
        rw [bV_at hi'] at ey
        obtain rfl := Option.some.inj ey
        have s6 := sN s5 nT (o := .tup [.int (i : Nat), .int ((bs.getD i 0 : Nat) : Int)])
        have hL2 : upd H3 T2 (.tup [.int (i : Nat), .int ((bs.getD i 0 : Nat) : Int)]) L = some (.lst (bV ns)) := by rw [upd_ne (ne_of_none hL nT)]; exact hL
        refine ⟨T2, _, rfl, SqT.of upd_same, rfl, _, _, rfl, _, _, rfl, rfl, ?_⟩
        refine ⟨rfl, _, rfl, _, rfl, 1, (i : Int), rfl, rfl, ⟨by omega, by omega, by decide⟩, _, rfl, ((bs.getD i 0 : Nat) : Int), _, rfl, rfl, _, hL2, by rw [bV_len]; omega, ?_⟩
        dsimp only
        rw [shl_one, andnot_cast]
        refine ⟨ns ++ [bs.getD i 0 - (bs.getD i 0 &&& 2 ^ i)], by rw [upd_same]; simp [bV], by simp [lL], fun a' j h => ?_, sUpd s6 nL⟩
        by_cases cc : a' = i
        · subst cc
          have : gb (ns ++ [bs.getD a' 0 - (bs.getD a' 0 &&& 2 ^ a')]) a' j = (bs.getD a' 0 - (bs.getD a' 0 &&& 2 ^ a')).testBit j := by
            unfold gb
            rw [List.getD_eq_getElem?_getD, List.getElem?_append_right (by omega), lL]
            simp
          rw [this, tb_sub, Nat.testBit_two_pow]
          rfl
        · have : gb (ns ++ [bs.getD i 0 - (bs.getD i 0 &&& 2 ^ i)]) a' j = gb ns a' j := by
            unfold gb
            rw [List.getD_eq_getElem?_getD, List.getElem?_append_left (by omega), List.getD_eq_getElem?_getD]
          rw [this]
          exact hn a' j (by omega)
      · rintro H3 ⟨ns, hL, lL, hn, s5⟩
        rw [eB] at lL hn
        refine q L ns H3 hL lL (fun i j hi => ?_) (sTr ss s5)
        rw [hn i j hi, hg]
        by_cases hj : j < fs.length
        · rw [decide_eq_true hj]
          cases gb fs i j <;> cases gb fs j i <;> cases decide (i = j) <;> rfl
        · have : gb fs j i = false := by
            unfold gb
            rw [List.getD_eq_getElem?_getD, List.getElem?_eq_none (by omega)]
            simp
          rw [this]
          cases gb fs i j <;> cases decide (i = j) <;> cases decide (j < fs.length) <;> rfl
end

/-! ### rules over a fixed K, for blocks of comprehensions -/
section
variable {X : Cx} {e : Expr} {f : Str} {ta : TE} {pos : Pos}
theorem pe_fldK {K : PySem.W.Frag} (h : X.K = K) (he : PE X e ta) (hb : attributeBase e f X.env (eval e X.env) = eval e X.env) : PE X (.Attribute e f pos) (tFld K ta f) := by
  subst h
  exact pe_fld he hb
theorem op_inSK {K : PySem.W.Frag} (h : X.K = K) : OpR X (compareOp .In) (rInS K) := by
  subst h
  exact op_inS
theorem op_notInSK {K : PySem.W.Frag} (h : X.K = K) : OpR X (compareOp .NotIn) (rNotInS K) := by
  subst h
  exact op_notInS
end

def spLLive (K : PySem.W.Frag) (C : Addr) : Sp := fun vs H Q _ => ∃ (p : Addr) (g : Int) (xs : List In) (rs : List (List Int)), vs = [.ref p] ∧ UnP K C H p g xs rs ∧
  ∀ (L : Addr) (ps : Nat → Addr) (c : Nat → List Bool) (H' : Hp), Rw H H' L xs.length ps c → (∀ i, i < xs.length → (c i).length = g.toNat) → (∀ ms, Liv xs rs ms → ∀ i k, i < xs.length → k < g.toNat → rb c i k = (ms.getD i 0).testBit k) → Same H H' → Q (.ref L) H'
def row0 (xs : List In) (g i : Nat) : List Bool := (List.range g).map fun (k : Nat) => decide ((k : Int) ∈ (xs.getD i .ti).rdI)
/-- the ways of each index, in lists that no row is -/
structure Wz (Hr H' : Hp) (Wl : Addr) (n : Nat) (ls : Nat → Addr) (xs : List In) (rs : List (List Int)) : Prop where
  o : H' Wl = some (.lst ((List.range n).map fun k => V.ref (ls k)))
  r : ∀ (j : Nat) (x : In), j < n → xs[j]? = some x → ∃ us, H' (ls j) = some (.lst us) ∧ Wys Hr H' Wl us (lwI x j (reI rs j))
  f : ∀ j, j < n → Hr (ls j) = none ∧ ls j ≠ Wl
  w : Hr Wl = none
theorem Wz.fr {Hr H' H'' : Hp} {Wl : Addr} {n : Nat} {ls : Nat → Addr} {xs : List In} {rs : List (List Int)} (h : Wz Hr H' Wl n ls xs rs) (s : ∀ b o, H' b = some o → Hr b = none → H'' b = some o) : Wz Hr H'' Wl n ls xs rs := by
  refine ⟨s _ _ h.o h.w, fun j x hj ex => ?_, h.f, h.w⟩
  obtain ⟨us, h1, h2⟩ := h.r j x hj ex
  refine ⟨us, s _ _ h1 (h.f j hj).1, h2.1, fun m u e => ?_⟩
  obtain ⟨t, l, e1, p, q, e2, w1, w2, w3, w4, w5, w6⟩ := h2.2 m u e
  exact ⟨t, l, e1, p, q, e2, s _ _ w1 w5, s _ _ w2 w6, w3, w4, w5, w6⟩
def Gp (G : Bool) (n g : Nat) (c0 c : Nat → List Bool) (X : Prop) : Prop := (G = false → c = c0 ∧ X) ∧ (G = true → cnt n g c0 < cnt n g c)
section
variable {P : Program} {w : World} {K : PySem.W.Frag} {mg : Str → Option Value} {base : Heap} {a : Ad}
theorem ok_law_live (T : Txt K mg a) : FnOk P w K mg base CX0 3 a.f_law_live a.d_law_live ["unit"] (spLLive K a.C_Unit) := by
  have G_law_reads : FnOk P w K mg base CX0 2 _ _ _ _ := ok_law_reads T
  have G_law_ways : FnOk P w K mg base CX0 2 _ _ _ _ := ok_law_ways T
  refine T.F__law_live.ok sc_law_live (fun vs H Q E h => ?_) (fun cdv A outer s H vs Q E hr h => ?_)
  · obtain ⟨_, _, _, _, rfl, _⟩ := h; rfl
  · obtain ⟨p, g, xs, rs, rfl, U, q⟩ := h
    have hz := sizeLine_eq
    obtain ⟨dx, v0, v1, v2, v4, ca, ra, us, ws, hp, hca, hcs, hra, hws⟩ := U.o
    have hlu : us.length = xs.length := by rw [hcs.len]; simp
    have n9 := U.k.n9
    have g9 := U.k.g9
    have g3 := U.k.g3
    have Wl := U.k.wel
    refine ⟨_, (pss_cons (ps_set (i := 1) sc_law_live.nd rfl (Or.inl rfl) (pe_callB call_len_seq (by rfl) T.b_len (by decide +kernel) (pa_cons (pe_fld (pv 0) rfl) pa_nil)))
      (pss_cons (ps_setLc (i := 2) (own := [("instruction", 4)]) (g := gName 4) rfl sc_law_live.nd rfl rfl (sw_true rfl rfl rfl (by decide +kernel)) (pi_tup (pe_fld (pv 0) rfl)) (blkOk_by (own := [("instruction", 4)]) (N := ["unit", "size", "rows", "k", "instruction", "ways", "index", "turn", "grew", "back", "way", "row"]) (sc := defScope s_law_live) (by decide +kernel)) (fun _ _ _ _ _ => pg_name (i := 4) sc_law_live.nd rfl (Or.inr rfl)) (fun _ _ _ _ _ => pts_nil) (fun _ _ _ _ _ => (pe_lc (own := [("k", 3)]) (g := gName 3) rfl sc_law_live.nd (pi_range1 rfl T.b_range (pa_cons (pe_fldK (K := K) rfl (pv 0) rfl) pa_nil)) (blkOk_by (own := [("k", 3)]) (by rfl)) (fun _ _ _ _ _ => pg_name (i := 3) sc_law_live.nd rfl (Or.inl rfl)) (fun _ _ _ _ _ => pts_nil) (fun _ _ _ _ _ => (pe_cmpR (op_inSK (K := K) rfl) (pv 3) (pe_call G_law_reads (hr.mono (by decide)) rfl T.g__law_reads T.k__law_reads T.bd__law_reads .nil pass0 (pa_cons (pv 4) pa_nil)) rfl)))))
      (pss_cons (ps_setLc (i := 5) (own := [("index", 6)]) (g := gName 6) rfl sc_law_live.nd rfl rfl (sw_true rfl rfl rfl (by decide +kernel)) (pi_range1 rfl T.b_range (pa_cons (pv 1) pa_nil)) (blkOk_by (own := [("index", 6)]) (N := ["unit", "size", "rows", "k", "instruction", "ways", "index", "turn", "grew", "back", "way", "row"]) (sc := defScope s_law_live) (by decide +kernel)) (fun _ _ _ _ _ => pg_name (i := 6) sc_law_live.nd rfl (Or.inl rfl)) (fun _ _ _ _ _ => pts_nil) (fun _ _ _ _ _ => (pe_call G_law_ways (hr.mono (by decide)) rfl T.g__law_ways T.k__law_ways T.bd__law_ways .nil pass0 (pa_cons (pv 0) (pa_cons (pv 6) pa_nil)))))
      (pss_cons (ps_for PassesOwn.never rfl (pi_range1 rfl T.b_range (pa_cons (pe_op op_add (pe_op op_mul (pv 1) (pe_fld (pv 0) rfl)) pe_int) pa_nil)) (pg_name (i := 7) sc_law_live.nd rfl (Or.inl rfl)) (pss_cons (ps_set (i := 8) sc_law_live.nd rfl (Or.inl rfl) pe_bl)
      (pss_cons (ps_for PassesOwn.never rfl (pi_range1 rfl T.b_range (pa_cons (pv 1) pa_nil)) (pg_name (i := 9) sc_law_live.nd rfl (Or.inl rfl)) (pss_cons (ps_set (i := 6) sc_law_live.nd rfl (Or.inl rfl) (pe_op op_sub (pe_op op_sub (pv 1) pe_int) (pv 9)))
      (pss_one (ps_for PassesOwn.never rfl (pi_list (pe_ix ix_list (pv 5) (pv 6) (fun _ _ => rfl))) (pg_name (i := 10) sc_law_live.nd rfl (Or.inl rfl)) (pss_one (ps_for PassesOwn.never rfl (pi_range1 rfl T.b_range (pa_cons (pe_fld (pv 0) rfl) pa_nil)) (pg_name (i := 3) sc_law_live.nd rfl (Or.inl rfl)) (pss_one (ps_if (PW.pt (pw_and (pt_val (pe_ix ix_list (pe_ix ix_list (pv 2) (pe_ix ix_list (pv 10) pe_int (fun _ _ => rfl)) (fun _ _ => rfl)) (pv 3) (fun _ _ => rfl))) (pw_and (pt_not (pt_val (pe_ix ix_list (pe_ix ix_list (pv 2) (pv 6) (fun _ _ => rfl)) (pv 3) (fun _ _ => rfl)))) (pw_and1 (pt_cmpR op_notInS (pv 3) (pe_ix ix_list (pv 10) pe_int (fun _ _ => rfl)) rfl))))) (pss_cons (ps_set (i := 11) sc_law_live.nd rfl (Or.inl rfl) (pe_ix ix_list (pv 2) (pv 6) (fun _ _ => rfl)))
      (pss_cons (ps_asg pe_bl (pg_sub (pv 11) (pv 3) set_list))
      (pss_one (ps_set (i := 8) sc_law_live.nd rfl (Or.inl rfl) pe_bl)))) pss_nil))))))))
      (pss_one (ps_if (pt_not (pt_val (pv 8))) (pss_one (ps_ret (pv 2))) pss_nil)))))
      (pss_one (ps_ret (pv 2))))))), ?_⟩
    refine ⟨_, rfl, p, a.C_Unit, dx, _, _, rfl, hp, T.cl_Unit, T.n_Unit_code, un_cd _ _ _ _ _ _ _, ca, us, rfl, .inr hca, ?_⟩
    refine ⟨_, rfl, p, a.C_Unit, dx, _, _, rfl, hp, T.cl_Unit, T.n_Unit_code, un_cd _ _ _ _ _ _ _, ca, rfl, ⟨_, hca⟩, fun L nL => ?_⟩
    refine lc_tup (K := K) (a := ca) (xs := us) (fun i H' => Same H H' ∧ ∃ ps, Rw H H' L i ps (row0 xs g.toNat)) ⟨sN (Same.refl H) nL, fun _ => L, Rw.zero nL⟩ (fun i H' _ h => seqT h.1 hca) ?_ ?_
    · rintro i y H1 hy ⟨s1, ps, R⟩
      obtain ⟨d, ed, dy⟩ := hcs.at hy
      rw [List.getElem?_map] at ed
      obtain ⟨x, ex, rfl⟩ := Option.map_eq_some_iff.mp ed
      have hi : i < xs.length := (List.getElem?_eq_some_iff.mp ex).1
      have Ix := U.k.x i x ex
      refine ⟨rfl, _, rfl, p, a.C_Unit, dx, _, _, rfl, s1 _ _ hp, T.cl_Unit, T.n_Unit_registers, un_rs _ _ _ _ _ _ _, g, rfl, by omega, by omega, fun M nM => ?_⟩
      have nML : M ≠ L := (ne_of_none R.o nM).symm
      refine lc_range (lo := 0) (n := g.toNat) (fun k H' => Same H1 H' ∧ H' M = some (.lst ((((List.range k).map fun (k : Nat) => decide ((k : Int) ∈ x.rdI))).map V.bl))) ⟨sN (Same.refl H1) nM, upd_same⟩ ?_ ?_
      · rintro k H2 hk ⟨s2, hM⟩
        rw [show (0 : Int) + (k : Int) = (k : Int) from Int.zero_add _]
        have s12 := sTr s1 s2
        refine ⟨rfl, _, rfl, _, rfl, y, x, rfl, dy.keep (KT.same s12), Ix.l, fun N H3 hN s3 => ?_⟩
        refine ⟨N, _, rfl, .inl (SqL.of hN), rfl, flat_ints _, ?_⟩
        rw [inV_int]
        refine ⟨_, s3 _ _ hM, by simp; omega, sUpd (sTr s2 s3) nM, ?_⟩
        rw [upd_same, List.range_succ, List.map_append, List.map_append]
        rfl
      · rintro H2 ⟨s2, hM⟩
        have s12 := sTr s1 s2
        have R2 := R.same s2
        refine ⟨_, R2.o, by simp; omega, sUpd s12 nL, fun k => if k = i then M else ps k, ?_⟩
        have e0 : ((List.range g.toNat).map fun (k : Nat) => decide ((k : Int) ∈ x.rdI)) = row0 xs g.toNat i := by
          unfold row0
          rw [show xs.getD i .ti = x by rw [List.getD_eq_getElem?_getD, ex]; rfl]
        rw [e0] at hM
        have := R2.grow hM (none_of s1 nM) nML fun k hk => ne_of_none (R.r k hk) nM
        refine ⟨this.o, fun k hk => ?_, this.f, this.i, this.z⟩
        have h2 := this.r k hk
        by_cases e : k = i
        · subst e
          rw [if_pos rfl, if_pos rfl] at h2
          rw [if_pos rfl]; exact h2
        · rw [if_neg e, if_neg e] at h2
          rw [if_neg e]; exact h2
    · rintro H1 ⟨s1, ps, R⟩
      rw [hlu] at R
      refine ⟨_, rfl, _, rfl, by omega, by omega, fun Wa nW => ?_⟩
      refine lc_range (lo := 0) (n := ((us.length : Nat) : Int).toNat) (fun i H' => Same H1 H' ∧ ∃ ls, Wz H1 H' Wa i ls xs rs) ⟨sN (Same.refl H1) nW, fun _ => Wa, by rw [upd_same]; rfl, fun j x hj => absurd hj (by omega), fun j hj => absurd hj (by omega), nW⟩ ?_ ?_
      · rintro i H2 hi ⟨s2, ls, Z⟩
        rw [Int.toNat_natCast, hlu] at hi
        rw [show (0 : Int) + (i : Int) = (i : Int) from Int.zero_add _]
        obtain ⟨x, ex⟩ : ∃ x, xs[i]? = some x := ⟨_, List.getElem?_eq_getElem hi⟩
        have s12 := sTr s1 s2
        refine ⟨rfl, _, rfl, _, rfl, p, g, xs, rs, i, x, rfl, U.same s12, ex, fun F as H3 nF hF Wy s3 => ?_⟩
        have Z3 := Z.fr (H'' := H3) fun b o e _ => s3 _ _ e
        refine ⟨_, Z3.o, by simp; omega, sUpd (sTr s2 s3) nW, fun k => if k = i then F else ls k, ?_, fun j y hj ey => ?_, fun j hj => ?_, nW⟩
        · have ml : ((List.range i).map fun k => V.ref (if k = i then F else ls k)) = (List.range i).map fun k => V.ref (ls k) := List.map_congr_left fun k hk => by rw [if_neg (by have := List.mem_range.mp hk; omega)]
          rw [upd_same, List.range_succ, List.map_append, ml, List.map_cons, List.map_nil, if_pos rfl]
        · have nWF : Wa ≠ F := ne_of_none Z.o nF
          by_cases e : j = i
          · subst e
            rw [ex] at ey
            obtain rfl := Option.some.inj ey
            rw [if_pos rfl]
            have W2 : Wys H1 H3 Wa as (lwI x j (reI rs j)) := ⟨Wy.1, fun m u e => by
              obtain ⟨t, l, e1, p1, q1, e2, w1, w2, w3, w4, w5, w6⟩ := Wy.2 m u e
              exact ⟨t, l, e1, p1, q1, e2, w1, w2, (ne_of_none Z.o w5).symm, (ne_of_none Z.o w6).symm, none_of s2 w5, none_of s2 w6⟩⟩
            exact ⟨as, by rw [upd_ne nWF.symm]; exact hF, W2.put⟩
          · rw [if_neg e]
            obtain ⟨us', h1, h2⟩ := Z3.r j y (by omega) ey
            exact ⟨us', by rw [upd_ne (Z3.f j (by omega)).2]; exact h1, h2.put⟩
        · have nWF : Wa ≠ F := ne_of_none Z.o nF
          by_cases e : j = i
          · rw [if_pos e]; exact ⟨none_of s2 nF, nWF.symm⟩
          · rw [if_neg e]; exact Z.f j (by omega)
      · rintro H2 ⟨s2, ls, Z⟩
        rw [Int.toNat_natCast, hlu] at Z
        have hm1 : (us.length : Int) * g ≤ 3000 := by
          have h1 : (us.length : Int) * g ≤ 100 * 30 := Int.mul_le_mul (by omega) (by omega) (by omega) (by omega)
          omega
        have hm0 : 0 ≤ (us.length : Int) * g := Int.mul_nonneg (by omega) (by omega)
        have s12 := sTr s1 s2
        refine ⟨_, rfl, _, rfl, p, a.C_Unit, dx, _, _, rfl, s12 _ _ hp, T.cl_Unit, T.n_Unit_registers, un_rs _ _ _ _ _ _ _, (us.length : Int), g, rfl, rfl, .inl ⟨by omega, by omega⟩, _, _, rfl, rfl, _, rfl, by omega, by omega, ?_⟩
        have R0 : LL xs rs g.toNat (row0 xs g.toNat) := by
          have rb0 : ∀ (i k : Nat) (x : In), xs[i]? = some x → rb (row0 xs g.toNat) i k = (decide (k < g.toNat) && decide ((k : Int) ∈ x.rdI)) := fun i k x ex => by
            unfold rb row0
            rw [show xs.getD i .ti = x by rw [List.getD_eq_getElem?_getD, ex]; rfl, List.getD_eq_getElem?_getD, List.getElem?_map]
            by_cases h : k < g.toNat
            · rw [List.getElem?_range h, decide_eq_true h]; rfl
            · rw [List.getElem?_eq_none (by simpa using h), decide_eq_false h]; rfl
          refine ⟨fun i _ => by simp [row0], fun i x ex k hk hd => ?_, fun f cf i k hi e => ?_⟩
          · rw [rb0 i k x ex, decide_eq_true hk, decide_eq_true hd]; rfl
          · obtain ⟨x, ex⟩ : ∃ x, xs[i]? = some x := ⟨_, List.getElem?_eq_getElem hi⟩
            rw [rb0 i k x ex, Bool.and_eq_true] at e
            exact cf i x ex k (stB_lw.mpr (.inl (of_decide_eq_true e.2)))
        refine for_range (lo := 0) (n := ((us.length : Int) * g + 1).toNat) (fun s' σ H' => ∃ c o3 o4 o6 o7 o8 o9 o10 o11, Rw H H' L xs.length ps c ∧ LL xs rs g.toNat c ∧ s' ≤ cnt xs.length g.toNat c ∧ Wz H1 H' Wa xs.length ls xs rs ∧ Same H H' ∧ σ = [some (.ref p), some (.int (us.length : Int)), some (.ref L), o3, o4, some (.ref Wa), o6, o7, o8, o9, o10, o11]) ⟨_, _, _, _, _, _, _, _, _, R.same s2, R0, Nat.zero_le _, Z, s12, rfl⟩ ?_ ?_
        · clear Z s12 s2
          rintro s' σ H3 hs' ⟨c0, o3, o4, o6, o7, o8, o9, o10, o11, R3, L3, hc, Z3, s3, rfl⟩
          have rest : ∀ {H' : Hp} {k : Nat} {o : HO}, k < xs.length → Wz H1 H' Wa xs.length ls xs rs → Wz H1 (upd H' (ps k) o) Wa xs.length ls xs rs := fun hk z => z.fr fun b o e nb => by rw [upd_ne (ne_of_none (R.r _ hk) nb).symm]; exact e
          refine ⟨_, rfl, _, rfl, by omega, by omega, ?_⟩
          refine for_range (lo := 0) (n := ((us.length : Nat) : Int).toNat) (fun b σ H' => ∃ c o3 G o6 o9 o10 o11, Rw H H' L xs.length ps c ∧ LL xs rs g.toNat c ∧ Gp G xs.length g.toNat c0 c (∀ (i : Nat) (x : In), xs.length ≤ i + b → xs[i]? = some x → ∀ w ∈ lwI x i (reI rs i), ∀ k, k < g.toNat → Still c0 i k w) ∧ Wz H1 H' Wa xs.length ls xs rs ∧ Same H H' ∧ σ = [some (.ref p), some (.int (us.length : Int)), some (.ref L), o3, o4, some (.ref Wa), o6, some (.int (0 + (s' : Nat))), some (.bl G), o9, o10, o11]) ⟨c0, _, false, _, _, _, _, R3, L3, ⟨fun _ => ⟨rfl, fun i x h ex => absurd (List.getElem?_eq_some_iff.mp ex).1 (by omega)⟩, fun z => (nomatch z)⟩, Z3, s3, rfl⟩ ?_ ?_
          · clear R3 L3 Z3 s3
            rintro b σ H4 hb ⟨c, o3', G, o6', o9', o10', o11', R4, L4, gp, Z4, s4, rfl⟩
            rw [Int.toNat_natCast, hlu] at hb
            obtain ⟨i, hi⟩ : ∃ i, i + b + 1 = xs.length := ⟨xs.length - 1 - b, by omega⟩
            obtain ⟨x, ex⟩ : ∃ x, xs[i]? = some x := ⟨_, List.getElem?_eq_getElem (by omega)⟩
            refine ⟨_, rfl, _, _, rfl, rfl, _, rfl, _, _, rfl, rfl, ?_⟩
            have ei : (us.length : Int) - 1 - (0 + (b : Nat)) = (i : Int) := by omega
            dsimp only
            rw [ei]
            obtain ⟨as, hF, Wy⟩ := Z4.r i x (by omega) ex
            have el : ((List.range xs.length).map fun k => V.ref (ls k))[i]? = some (V.ref (ls i)) := by simp [show i < xs.length by omega]
            refine ⟨_, rfl, _, rfl, _, _, _, _, rfl, rfl, SqL.of Z4.o, atI_nat el, ls i, rfl, ⟨_, SqL.of hF⟩, ?_⟩
            refine for_list (K := K) (a := ls i) (xs := as) (fun j σ H' => ∃ c o3 G o10 o11, Rw H H' L xs.length ps c ∧ LL xs rs g.toNat c ∧ Gp G xs.length g.toNat c0 c ((∀ (i' : Nat) (x : In), xs.length ≤ i' + b → xs[i']? = some x → ∀ w ∈ lwI x i' (reI rs i'), ∀ k, k < g.toNat → Still c0 i' k w) ∧ ∀ w ∈ (lwI x i (reI rs i)).take j, ∀ k, k < g.toNat → Still c0 i k w) ∧ Wz H1 H' Wa xs.length ls xs rs ∧ H' (ls i) = some (.lst as) ∧ Same H H' ∧ σ = [some (.ref p), some (.int (us.length : Int)), some (.ref L), o3, o4, some (.ref Wa), some (.int (i : Int)), some (.int (0 + (s' : Nat))), some (.bl G), some (.int (0 + (b : Nat))), o10, o11]) ⟨c, _, G, _, _, R4, L4, ⟨fun z => ⟨(gp.1 z).1, (gp.1 z).2, fun w hw => absurd hw (by simp)⟩, gp.2⟩, Z4, hF, s4, rfl⟩ (fun j σ H' _ ⟨_, _, _, _, _, _, _, _, _, h, _⟩ => SqL.of h) ?_ ?_
            · clear R4 L4 gp Z4 s4 hF
              rintro j y σ H5 hy ⟨c, o3', G, o10', o11', R5, L5, gp, Z5, hF, s5, rfl⟩
              obtain ⟨t, l, ew, _⟩ := Wy.2 j y hy
              have wm := List.mem_of_getElem? ew
              refine ⟨_, rfl, p, a.C_Unit, dx, _, _, rfl, s5 _ _ hp, T.cl_Unit, T.n_Unit_registers, un_rs _ _ _ _ _ _ _, g, rfl, by omega, by omega, ?_⟩
              refine for_range (lo := 0) (n := g.toNat) (fun k σ H' => ∃ c o3 G o11, Rw H H' L xs.length ps c ∧ LL xs rs g.toNat c ∧ Gp G xs.length g.toNat c0 c (((∀ (i' : Nat) (x : In), xs.length ≤ i' + b → xs[i']? = some x → ∀ w ∈ lwI x i' (reI rs i'), ∀ k, k < g.toNat → Still c0 i' k w) ∧ ∀ w ∈ (lwI x i (reI rs i)).take j, ∀ k, k < g.toNat → Still c0 i k w) ∧ ∀ k', k' < k → Still c0 i k' (t, l)) ∧ Wz H1 H' Wa xs.length ls xs rs ∧ H' (ls i) = some (.lst as) ∧ Same H H' ∧ σ = [some (.ref p), some (.int (us.length : Int)), some (.ref L), o3, o4, some (.ref Wa), some (.int (i : Int)), some (.int (0 + (s' : Nat))), some (.bl G), some (.int (0 + (b : Nat))), some y, o11]) ⟨c, _, G, _, R5, L5, ⟨fun z => ⟨(gp.1 z).1, (gp.1 z).2, fun k' h => absurd h (by omega)⟩, gp.2⟩, Z5, hF, s5, rfl⟩ ?_ ?_
              · clear R5 L5 gp Z5 s5 hF
                rintro k σ H6 hk ⟨c, o3', G, o11', R6, L6, gp, Z6, hF, s6, rfl⟩
                rw [show (0 : Int) + (k : Int) = (k : Int) from Int.zero_add _]
                obtain ⟨us', hF', Wy6⟩ := Z6.r i x (by omega) ex
                rw [hF] at hF'
                obtain rfl : as = us' := by
                  have := Option.some.inj hF'
                  injection this
                obtain ⟨t', l', ew', p1, q1, rfl, h1, h2, _, _, _, _⟩ := Wy6.2 j y hy
                rw [ew] at ew'
                have e3 := Option.some.inj ew'
                injection e3 with e4 e5
                subst e4 e5
                obtain ⟨t0, t1⟩ := Wl.w i x ex t (by
                  have hw := wm
                  unfold lwI at hw
                  unfold wyI enI
                  rcases List.mem_append.mp hw with z | z
                  · obtain ⟨t', ht, e⟩ := List.mem_map.mp z
                    injection e with e1 e2
                    rw [← e1]
                    exact List.mem_append.mpr (.inl ht)
                  · refine List.mem_append.mpr (.inr ?_)
                    by_cases hcan : x.can = true
                    · rw [if_pos hcan] at z ⊢
                      cases r : reI rs i with
                      | none => rw [r] at z; exact absurd z (by simp)
                      | some q =>
                        rw [r] at z
                        have := List.mem_singleton.mp z
                        injection this with e1 e2
                        rw [e1]
                        exact List.mem_singleton.mpr rfl
                    · rw [if_neg hcan] at z
                      exact absurd z (by simp))
                obtain ⟨n, rfl⟩ := Int.eq_ofNat_of_zero_le t0
                have hn : n < xs.length := by omega
                have hi' : i < xs.length := by omega
                have ep : ∀ {m}, m < xs.length → ((List.range xs.length).map fun k => V.ref (ps k))[m]? = some (V.ref (ps m)) := fun h => by simp [h]
                have eb : ∀ {m}, m < xs.length → ((c m).map V.bl)[k]? = some (V.bl (rb c m k)) := fun {m} h => by
                  have := L6.l m h
                  rw [List.getElem?_map]
                  unfold rb
                  rw [List.getD_eq_getElem?_getD, List.getElem?_eq_getElem (by omega)]
                  rfl
                have nxt : (c = c0 → Still c0 i k ((n : Int), l)) → Gp G xs.length g.toNat c0 c (((∀ (i' : Nat) (x : In), xs.length ≤ i' + b → xs[i']? = some x → ∀ w ∈ lwI x i' (reI rs i'), ∀ k, k < g.toNat → Still c0 i' k w) ∧ ∀ w ∈ (lwI x i (reI rs i)).take j, ∀ k, k < g.toNat → Still c0 i k w) ∧ ∀ k', k' < k + 1 → Still c0 i k' ((n : Int), l)) := fun h => ⟨fun z => by
                  obtain ⟨g1, g2, g3'⟩ := gp.1 z
                  refine ⟨g1, g2, fun k' hk' => ?_⟩
                  by_cases e : k' = k
                  · rw [e]; exact h g1
                  · exact g3' k' (by omega), gp.2⟩
                refine ⟨_, rfl, _, rfl, _, _, _, _, rfl, rfl, SqL.of h1, atI_nat (j := 0) rfl, _, _, _, _, rfl, rfl, SqL.of R6.o, atI_nat (ep hn), _, rfl, _, _, _, _, rfl, rfl, SqL.of (R6.r n hn), atI_nat (eb hn), _, rfl, ?_⟩
                cases b1 : rb c n k with
                | false => exact iteF (iteF ⟨c, _, G, _, R6, L6, nxt (fun e z => by subst e; rw [fR_nat, b1] at z; exact absurd z (by simp)), Z6, hF, s6, rfl⟩)
                | true =>
                  refine iteT ⟨_, rfl, _, rfl, _, _, _, _, rfl, rfl, SqL.of R6.o, atI_nat (ep hi'), _, rfl, _, _, _, _, rfl, rfl, SqL.of (R6.r i hi'), atI_nat (eb hi'), _, rfl, ?_⟩
                  cases b2 : rb c i k with
                  | true => exact iteF (iteF ⟨c, _, G, _, R6, L6, nxt (fun e _ _ => by subst e; exact b2), Z6, hF, s6, rfl⟩)
                  | false =>
                    refine iteT ⟨_, rfl, _, rfl, _, _, _, _, rfl, rfl, SqL.of h1, atI_nat (j := 1) rfl, q1, _, rfl, .inl (SqL.of h2), rfl, flat_ints _, _, rfl, ?_⟩
                    rw [inV_int]
                    cases b3 : decide ((k : Int) ∈ l) with
                    | true => exact iteF ⟨c, _, G, _, R6, L6, nxt (fun e _ z => absurd (of_decide_eq_true b3) z), Z6, hF, s6, rfl⟩
                    | false =>
                      obtain ⟨L7, ct⟩ := L6.up Wl ex hk wm (by rw [fR_nat]; exact b1) (of_decide_eq_false b3) b2
                      have hl := L6.l i hi'
                      refine iteT ⟨_, rfl, _, rfl, _, _, _, _, rfl, rfl, SqL.of R6.o, atI_nat (ep hi'), ?_⟩
                      refine ⟨_, rfl, _, rfl, _, _, _, _, rfl, rfl, R6.r i hi', ixN_nat (by rw [List.length_map]; omega), ?_⟩
                      have R7 := R6.set (v := (c i).set k true) hi'
                      have e6 : ((c i).map V.bl).set k (V.bl true) = ((c i).set k true).map V.bl := by rw [List.map_set]
                      rw [e6]
                      refine ⟨upc c i k, _, true, _, R7, L7, ⟨fun z => (nomatch z), fun _ => ?_⟩, rest hi' Z6, ?_, sUpd s6 (R6.f _ hi').1, rfl⟩
                      · cases G with
                        | false => rw [← (gp.1 rfl).1]; exact ct
                        | true => exact Nat.lt_trans (gp.2 rfl) ct
                      · rw [upd_ne (ne_of_none (R.r _ hi') (Z6.f i hi').1).symm]
                        exact hF
              · rintro σ H6 ⟨c, o3', G, o11', R6, L6, gp, Z6, hF, s6, rfl⟩
                refine ⟨c, _, G, _, _, R6, L6, ⟨fun z => ?_, gp.2⟩, Z6, hF, s6, rfl⟩
                obtain ⟨h1, h2, h3⟩ := gp.1 z
                refine ⟨h1, h2.1, fun w hw k hk => ?_⟩
                rw [List.take_succ, ew] at hw
                rcases List.mem_append.mp hw with m | m
                · exact h2.2 w m k hk
                · rw [List.mem_singleton.mp m]
                  exact h3 k hk
            · rintro σ H5 ⟨c, o3', G, o10', o11', R5, L5, gp, Z5, hF, s5, rfl⟩
              refine ⟨c, _, G, _, _, _, _, R5, L5, ⟨fun z => ?_, gp.2⟩, Z5, s5, rfl⟩
              obtain ⟨h1, h2, h3⟩ := gp.1 z
              refine ⟨h1, fun i' x' h ex' w hw k hk => ?_⟩
              rw [Wy.1, List.take_length] at h3
              by_cases e : i' = i
              · subst e
                rw [ex] at ex'
                obtain rfl := Option.some.inj ex'
                exact h3 w hw k hk
              · exact h2 i' x' (by omega) ex' w hw k hk
          · rintro σ H4 ⟨c, o3', G, o6', o9', o10', o11', R4, L4, gp, Z4, s4, rfl⟩
            rw [Int.toNat_natCast, hlu] at gp
            cases G with
            | false =>
              obtain ⟨rfl, st⟩ := gp.1 rfl
              refine ⟨_, rfl, _, rfl, iteT ⟨_, rfl, q L ps c H4 R4 (fun i hi => L4.l i hi) (fun ms lv => L4.fin Wl (fun i x ex => st i x (by omega) ex) lv) s4⟩⟩
            | true =>
              have := gp.2 rfl
              exact ⟨_, rfl, _, rfl, iteF ⟨c, _, _, _, _, _, _, _, _, R4, L4, by omega, Z4, s4, rfl⟩⟩
        · rintro σ H3 ⟨c, o3, o4, o6, o7, o8, o9, o10, o11, R3, L3, hc, Z3, s3, rfl⟩
          have := cnt_le xs.length g.toNat c
          have e1 : ((us.length : Int) * g + 1).toNat = xs.length * g.toNat + 1 := by
            have : ((xs.length * g.toNat : Nat) : Int) = (us.length : Int) * g := by
              rw [Int.natCast_mul, hlu, Int.toNat_of_nonneg (by omega)]
            omega
          omega
end

/-! ### _law_pairs -/
def FrR (n : Nat) (ps : Nat → Addr) (H H' : Hp) : Prop := ∀ b o, H b = some o → (∀ k, k < n → b ≠ ps k) → H' b = some o
def pr (xs ys : List Nat) (i j : Nat) : Bool := !decide (i = j) && ((decide (i ∈ xs) && decide (j ∈ ys)) || (decide (j ∈ xs) && decide (i ∈ ys)))
def spPairs : Sp := fun vs H Q _ => ∃ (H0 : Hp) (L A B : Addr) (ps : Nat → Addr) (c : Nat → List Bool) (n : Nat) (ns1 ns2 : List Nat), vs = [.ref L, .ref A, .ref B] ∧ Rw H0 H L n ps c ∧ (∀ i, i < n → (c i).length = n) ∧ H A = some (.lst (nV ns1)) ∧ H B = some (.lst (nV ns2)) ∧ (∀ k, k < n → A ≠ ps k ∧ B ≠ ps k) ∧ (∀ k ∈ ns1, k < n) ∧ (∀ k ∈ ns2, k < n) ∧
  ∀ (c' : Nat → List Bool) (H' : Hp), Rw H0 H' L n ps c' → (∀ i, i < n → (c' i).length = n) → (∀ i j, i < n → j < n → rb c' i j = (rb c i j || pr ns1 ns2 i j)) → FrR n ps H H' → Q .non H'
theorem nV_get {l : List Nat} {i : Nat} {x : V} (h : (nV l)[i]? = some x) : ∃ m, l[i]? = some m ∧ x = .int (m : Int) := by
  unfold nV at h
  rw [List.getElem?_map] at h
  obtain ⟨m, e, rfl⟩ := Option.map_eq_some_iff.mp h
  exact ⟨m, e, rfl⟩
section
variable {P : Program} {w : World} {K : PySem.W.Frag} {mg : Str → Option Value} {base : Heap} {a : Ad}
theorem ok_law_pairs (T : Txt K mg a) : FnOk P w K mg base CX0 1 a.f_law_pairs a.d_law_pairs ["found", "first", "second"] spPairs := by
  refine T.F__law_pairs.ok sc_law_pairs (fun vs H Q E h => ?_) (fun cdv A' outer s H vs Q E hr h => ?_)
  · obtain ⟨_, _, _, _, _, _, _, _, _, rfl, _⟩ := h; rfl
  · obtain ⟨H0, L, A, B, ps, c, n, ns1, ns2, rfl, R, hl, hA, hB, hne, h1, h2, q⟩ := h
    refine ⟨_, (pss_one (ps_for PassesOwn.never rfl (pi_list (pv 1)) (pg_name (i := 3) sc_law_pairs.nd rfl (Or.inl rfl)) (pss_one (ps_for PassesOwn.never rfl (pi_list (pv 2)) (pg_name (i := 4) sc_law_pairs.nd rfl (Or.inl rfl)) (pss_one (ps_if (pt_cmpR op_ne (pv 3) (pv 4) (nomark _)) (pss_cons (ps_set (i := 5) sc_law_pairs.nd rfl (Or.inl rfl) (pe_ix ix_list (pv 0) (pv 3) (fun _ _ => rfl)))
      (pss_cons (ps_asg pe_bl (pg_sub (pv 5) (pv 4) set_list))
      (pss_cons (ps_set (i := 5) sc_law_pairs.nd rfl (Or.inl rfl) (pe_ix ix_list (pv 0) (pv 4) (fun _ _ => rfl)))
      (pss_one (ps_asg pe_bl (pg_sub (pv 5) (pv 3) set_list)))))) pss_nil)))))), ?_⟩
    have ep : ∀ {m}, m < n → ((List.range n).map fun k => V.ref (ps k))[m]? = some (V.ref (ps m)) := fun h => by simp [h]
    refine ⟨_, rfl, A, rfl, ⟨_, SqL.of hA⟩, ?_⟩
    refine for_list (K := K) (a := A) (xs := nV ns1) (fun i σ H' => ∃ c' o3 o4 o5, Rw H0 H' L n ps c' ∧ (∀ i, i < n → (c' i).length = n) ∧ (∀ i' j, i' < n → j < n → rb c' i' j = (rb c i' j || pr (ns1.take i) ns2 i' j)) ∧ FrR n ps H H' ∧ σ = [some (.ref L), some (.ref A), some (.ref B), o3, o4, o5]) ⟨c, _, _, _, R, hl, fun i' j _ _ => by simp [pr], fun b o e _ => e, rfl⟩ (fun i σ H' _ ⟨_, _, _, _, _, _, _, fr, _⟩ => SqL.of (fr _ _ hA fun k hk => (hne k hk).1)) ?_ ?_
    · rintro i x σ H1 hx ⟨c1, o3, o4, o5, R1, l1, e1, fr1, rfl⟩
      obtain ⟨one, eo, rfl⟩ := nV_get hx
      have ho := h1 one (List.mem_of_getElem? eo)
      refine ⟨_, rfl, B, rfl, ⟨_, SqL.of (fr1 _ _ hB fun k hk => (hne k hk).2)⟩, ?_⟩
      refine for_list (K := K) (a := B) (xs := nV ns2) (fun j σ H' => ∃ c' o4 o5, Rw H0 H' L n ps c' ∧ (∀ i, i < n → (c' i).length = n) ∧ (∀ i' j', i' < n → j' < n → rb c' i' j' = (rb c1 i' j' || pr [one] (ns2.take j) i' j')) ∧ FrR n ps H H' ∧ σ = [some (.ref L), some (.ref A), some (.ref B), some (.int (one : Int)), o4, o5]) ⟨c1, _, _, R1, l1, fun i' j _ _ => by simp [pr], fr1, rfl⟩ (fun j σ H' _ ⟨_, _, _, _, _, _, fr, _⟩ => SqL.of (fr _ _ hB fun k hk => (hne k hk).2)) ?_ ?_
      · rintro j y σ H2 hy ⟨c2, o4, o5, R2, l2, e2, fr2, rfl⟩
        obtain ⟨two, et, rfl⟩ := nV_get hy
        have ht := h2 two (List.mem_of_getElem? et)
        have step : ∀ i' j', pr [one] (ns2.take (j + 1)) i' j' = (pr [one] (ns2.take j) i' j' || (!decide (one = two) && ((decide (i' = one) && decide (j' = two)) || (decide (i' = two) && decide (j' = one))))) := fun i' j' => by
          unfold pr
          rw [List.take_succ, et, Bool.eq_iff_iff]
          simp
          constructor
          · rintro ⟨z1, z2⟩
            by_cases q1 : i' = one <;> by_cases q2 : j' = two <;> by_cases q3 : i' = two <;> by_cases q4 : j' = one <;> simp_all
          · rintro (⟨z1, z2⟩ | ⟨z1, z2⟩)
            · exact ⟨z1, by rcases z2 with ⟨a1, a2⟩ | ⟨a1, a2⟩ <;> simp_all⟩
            · rcases z2 with ⟨a1, a2⟩ | ⟨a1, a2⟩
              · subst a1; subst a2; exact ⟨z1, .inl ⟨rfl, .inr rfl⟩⟩
              · subst a1; subst a2; exact ⟨fun z => z1 z.symm, .inr ⟨rfl, .inr rfl⟩⟩
        refine ⟨_, rfl, _, rfl, rfl, _, rfl, ite3 (fun e => ?_) (fun e => ?_)⟩
        · have ne : one ≠ two := fun z => by rw [z] at e; simp at e
          have hl1 := l2 one ho
          refine ⟨_, rfl, _, rfl, _, _, _, _, rfl, rfl, SqL.of R2.o, atI_nat (ep ho), ?_⟩
          refine ⟨_, rfl, _, rfl, _, _, _, _, rfl, rfl, R2.r one ho, ixN_nat (by rw [List.length_map]; omega), ?_⟩
          have R3 := R2.set (v := (c2 one).set two true) ho
          rw [show ((c2 one).map V.bl).set two (V.bl true) = ((c2 one).set two true).map V.bl by rw [List.map_set]]
          have l3 : ∀ i, i < n → (upc c2 one two i).length = n := fun i hi => by
            unfold upc
            split
            · rw [List.length_set]; exact l2 one ho
            · exact l2 i hi
          have hl3 := l3 two ht
          refine ⟨_, rfl, _, rfl, _, _, _, _, rfl, rfl, SqL.of R3.o, atI_nat (ep ht), ?_⟩
          refine ⟨_, rfl, _, rfl, _, _, _, _, rfl, rfl, R3.r two ht, ixN_nat (by rw [List.length_map]; show one < (upc c2 one two two).length; omega), ?_⟩
          have R4 := R3.set (v := (upc c2 one two two).set one true) ht
          rw [show ((if two = one then (c2 one).set two true else c2 two).map V.bl).set one (V.bl true) = ((upc c2 one two two).set one true).map V.bl by rw [List.map_set]; rfl]
          refine ⟨upc (upc c2 one two) two one, _, _, R4, fun i hi => ?_, fun i' j' hi' hj' => ?_, fun b o eb nb => by rw [upd_ne (nb two ht), upd_ne (nb one ho)]; exact fr2 b o eb nb, rfl⟩
          · show (if i = two then (upc c2 one two two).set one true else upc c2 one two i).length = n
            split
            · rw [List.length_set]; exact l3 two ht
            · exact l3 i hi
          · rw [rb_up (by omega), rb_up (by omega), e2 i' j' hi' hj', step, decide_eq_false ne]
            by_cases q1 : i' = one ∧ j' = two
            · obtain ⟨rfl, rfl⟩ := q1
              simp
            · by_cases q2 : i' = two ∧ j' = one
              · obtain ⟨rfl, rfl⟩ := q2
                simp
              · rw [if_neg q2, if_neg q1]
                have z1 : (decide (i' = one) && decide (j' = two)) = false := by
                  rw [Bool.and_eq_false_iff]
                  by_cases z : i' = one
                  · exact .inr (decide_eq_false fun z2 => q1 ⟨z, z2⟩)
                  · exact .inl (decide_eq_false z)
                have z2 : (decide (i' = two) && decide (j' = one)) = false := by
                  rw [Bool.and_eq_false_iff]
                  by_cases z : i' = two
                  · exact .inr (decide_eq_false fun z2 => q2 ⟨z, z2⟩)
                  · exact .inl (decide_eq_false z)
                rw [z1, z2]
                simp
        · have eq : one = two := by
            have : V.int (one : Int) = V.int (two : Int) := by simpa using e
            injection this with this
            omega
          refine ⟨c2, _, _, R2, l2, fun i' j' hi' hj' => ?_, fr2, rfl⟩
          rw [e2 i' j' hi' hj', step, decide_eq_true eq]
          simp
      · rintro σ H2 ⟨c2, o4, o5, R2, l2, e2, fr2, rfl⟩
        refine ⟨c2, _, _, _, R2, l2, fun i' j' hi' hj' => ?_, fr2, rfl⟩
        rw [e2 i' j' hi' hj', e1 i' j' hi' hj', show (nV ns2).length = ns2.length by simp [nV], List.take_length]
        have : pr (ns1.take (i + 1)) ns2 i' j' = (pr (ns1.take i) ns2 i' j' || pr [one] ns2 i' j') := by
          unfold pr
          rw [List.take_succ, eo, Bool.eq_iff_iff]
          simp
          constructor
          · rintro ⟨z1, z2⟩
            rcases z2 with ⟨a1 | a1, a2⟩ | ⟨a1 | a1, a2⟩
            · exact .inl ⟨z1, .inl ⟨a1, a2⟩⟩
            · exact .inr ⟨z1, .inl ⟨a1, a2⟩⟩
            · exact .inl ⟨z1, .inr ⟨a1, a2⟩⟩
            · exact .inr ⟨z1, .inr ⟨a1, a2⟩⟩
          · rintro (⟨z1, ⟨a1, a2⟩ | ⟨a1, a2⟩⟩ | ⟨z1, ⟨a1, a2⟩ | ⟨a1, a2⟩⟩)
            · exact ⟨z1, .inl ⟨.inl a1, a2⟩⟩
            · exact ⟨z1, .inr ⟨.inl a1, a2⟩⟩
            · exact ⟨z1, .inl ⟨.inr a1, a2⟩⟩
            · exact ⟨z1, .inr ⟨.inr a1, a2⟩⟩
        rw [this]
        cases rb c i' j' <;> cases pr (ns1.take i) ns2 i' j' <;> rfl
    · rintro σ H1 ⟨c1, o3, o4, o5, R1, l1, e1, fr1, rfl⟩
      refine q c1 H1 R1 l1 (fun i j hi hj => ?_) fr1
      rw [e1 i j hi hj, show (nV ns1).length = ns1.length by simp [nV], List.take_length]
end

section
variable {X : Cx} {tg e : Expr} {td : TE}
/-- for x in a dict that nobody else holds: it stays locked -/
def iKeysF (td : TE) : TI := fun σ H R => td σ H fun x H1 => ∃ d kvs, x = .ref d ∧ H1 d = some (.dK kvs) ∧ ∀ o, R (Itk d o kvs) (upd H1 d (.frz o (.dK kvs)))
theorem pi_keysF (he : PE X e td) : PI X tg e (iKeysF td) := by
  refine ⟨fun pins s σ H R I h => ?_⟩
  refine thn (he.run pins s σ H _ I h) fun u s1 ⟨x, H1, I1, rx, d, kvs, ex, hd, q⟩ => ?_
  subst ex
  obtain rfl : u = Value.ref d := rx
  obtain ⟨od, I2⟩ := I1.lock hd trivial
  obtain ⟨hs, hgd, hx, es, ep, vs, hdt, hsz, kv, hm⟩ := I2.frzK upd_same
  refine iter_keys hs hgd hx hdt (pi_one (tk := s1.toks) I2 _ (turn_keys _ hdt) ⟨_, Heap.get?_push_size _ rfl, rfl, ?_⟩ (q od))
  rw [hsz] <;> rfl
end
section
variable {J : It} {n : Nat} {G : Hp → Prop} {Y : Nat → Hp → V → Hp → Prop}
theorem dc_it (w : Walk J n G Y) {g : TG} {tt : TT} {tk tv : TE} {vs : List Nat} {σ : L2.St} {H1 : Hp} {D : Addr} {Qd : Hp → Prop} (Pv : Nat → Hp → Prop) (h0 : Pv 0 (upd H1 D (.dK []))) (hG : ∀ i H, i ≤ n → Pv i H → G H)
    (hs : ∀ i x H H', i < n → Pv i H → Y i H x H' → g x (wipe σ vs) H' fun σ2 H2 => wipe σ2 vs = wipe σ vs ∧ tt σ2 H2 fun b H3 =>
      if b = true then tk σ2 H3 fun y H4 => tv σ2 H4 fun z H5 => ∃ kvs k, y = kV k ∧ H5 D = some (.dK kvs) ∧ kvs.length < sizeLine ∧ Pv (i + 1) (upd H5 D (.dK (putK kvs k z))) else Pv (i + 1) H3) (hd : ∀ H, Pv n H → Qd H) :
    ∃ W : Nat → Nat → Hp → Prop, (∃ m, W 0 m (upd H1 D (.dK []))) ∧ ∀ i m H, W i m H →
      (J.stop i H ∧ Qd H) ∨ (J.go i H ∧ ∃ Nx : Hp → Prop, (∀ H', Nx H' → ∃ m', m' < m ∧ W (i + 1) m' H') ∧ ∀ x H', J.yld i H x H' → g x (wipe σ vs) H' fun σ2 H2 => wipe σ2 vs = wipe σ vs ∧ tt σ2 H2 fun b H3 =>
        if b = true then tk σ2 H3 fun y H4 => tv σ2 H4 fun z H5 => ∃ kvs k, y = kV k ∧ H5 D = some (.dK kvs) ∧ kvs.length < sizeLine ∧ Nx (upd H5 D (.dK (putK kvs k z))) else Nx H3) := by
  refine ⟨fun i m H => m = n - i ∧ i ≤ n ∧ Pv i H, ⟨n, by simp, Nat.zero_le _, h0⟩, ?_⟩
  rintro i m H ⟨rfl, hi, p⟩
  have q := hG i H hi p
  by_cases hlt : i < n
  · refine .inr ⟨w.goes i H hlt q, Pv (i + 1), fun H' p' => ⟨n - (i + 1), by omega, rfl, hlt, p'⟩, fun x H' y => hs i x H H' hlt p (w.yields i H x H' hlt q y)⟩
  · have e : i = n := by omega
    subst e
    exact .inl ⟨w.stops H q, hd H p⟩
end
def rawA (ms : List Nat) (i j : Nat) : Prop := ∃ m ∈ ms, m.testBit i = true ∧ m.testBit j = true
def rawX (x : In) (a : Nat) (ms : List Nat) (i j : Nat) : Prop := (i : Int) ∈ x.wrt ∧ ((j : Int) ∈ x.wrt ∨ ∃ t ∈ x.fol a, bF ms t j = true)
def rawB (xs : List In) (ms : List Nat) (c i j : Nat) : Prop := ∃ (a : Nat) (x : In), a < c ∧ xs[a]? = some x ∧ rawX x a ms i j
def rawR (r : List Int) (ms : List Nat) (i j : Nat) : Prop := (i : Int) ∈ [r.getD 3 0, r.getD 4 0] ∧ ((j : Int) ∈ [r.getD 3 0, r.getD 4 0] ∨ bF ms (r.getD 2 0) j = true)
def rawC (rs : List (List Int)) (ms : List Nat) (i j : Nat) : Prop := ∃ r ∈ rs, rawR r ms i j
def raw (xs : List In) (rs : List (List Int)) (ms : List Nat) (i j : Nat) : Prop := (rawA ms i j ∨ rawB xs ms xs.length i j) ∨ rawC rs ms i j
def spConf (K : PySem.W.Frag) (C : Addr) : Sp := fun vs H Q _ => ∃ (p : Addr) (g : Int) (xs : List In) (rs : List (List Int)), vs = [.ref p] ∧ UnP K C H p g xs rs ∧
  ∀ (u : V) (fs ms : List Nat) (H' : Hp), DT K H' u (rowsD fs) → Liv xs rs ms → fs.length = g.toNat → (∀ i j, i < g.toNat → gb fs i j = true → j < g.toNat) → (∀ i j, i < g.toNat → (gb fs i j = true ↔ i ≠ j ∧ (raw xs rs ms i j ∨ raw xs rs ms j i))) → Same H H' → Q u H'
theorem FrF.kt {K : PySem.W.Frag} {F : Addr} {H H' : Hp} {zs : List V} (fr : FrF F H H') (hF : H F = some (.lst zs)) : KT K H H' := fun b ys h => by
  rcases h with (h | ⟨u, h⟩) | h
  · exact .inl (.inl (fr _ _ h (ne_of h hF fun z => nomatch z)))
  · exact .inl (.inr ⟨u, fr _ _ h (ne_of h hF fun z => nomatch z)⟩)
  · exact .inr h
/-- behind the start of found: found alone is written, what is new is new -/
structure Cf (K : PySem.W.Frag) (H0 H1 H' : Hp) (F : Addr) (fs : List Nat) : Prop where
  f : H' F = some (.lst (bV fs))
  r : FrF F H1 H'
  k : KT K H1 H'
  z : H0 F = none
theorem Cf.same {K : PySem.W.Frag} {H0 H1 H' H'' : Hp} {F : Addr} {fs : List Nat} (h : Cf K H0 H1 H' F fs) (s : Same H' H'') : Cf K H0 H1 H'' F fs :=
  ⟨s _ _ h.f, fun b o e ne => s _ _ (h.r b o e ne), h.k.tr (KT.same s), h.z⟩
theorem Cf.step {K : PySem.W.Frag} {H0 H1 H' H'' : Hp} {F : Addr} {fs fs' : List Nat} (h : Cf K H0 H1 H' F fs) (f : H'' F = some (.lst (bV fs'))) (r : FrF F H' H'') : Cf K H0 H1 H'' F fs' :=
  ⟨f, fun b o e ne => r b o (h.r b o e ne) ne, h.k.tr (r.kt h.f), h.z⟩
section
variable {P : Program} {w : World} {K : PySem.W.Frag} {mg : Str → Option Value} {base : Heap} {a : Ad}
theorem ok_conflicts (T : Txt K mg a) : FnOk P w K mg base CX0 5 a.f_conflicts a.d_conflicts ["unit"] (spConf K a.C_Unit) := by
  have G_live_masks : FnOk P w K mg base CX0 4 _ _ _ _ := ok_live_masks T
  have G_add_conflicts : FnOk P w K mg base CX0 2 _ _ _ _ := ok_add_conflicts T
  have G_mask_of : FnOk P w K mg base CX0 1 _ _ _ _ := ok_mask_of T
  have G_writes : FnOk P w K mg base CX0 1 _ _ _ _ := ok_writes T
  have G_followers : FnOk P w K mg base CX0 1 _ _ _ _ := ok_followers T
  have G_in_both_ways : FnOk P w K mg base CX0 2 _ _ _ _ := ok_in_both_ways T
  have G_numbers_of : FnOk P w K mg base CX0 1 _ _ _ _ := ok_numbers_of T
  refine T.F_conflicts.ok sc_conflicts (fun vs H Q E h => ?_) (fun cdv A outer s H vs Q E hr h => ?_)
  · obtain ⟨_, _, _, _, rfl, _⟩ := h; rfl
  · obtain ⟨p, g, xs, rs, rfl, U, q⟩ := h
    have hz := sizeLine_eq
    obtain ⟨dx, v0, v1, v2, v4, ca, ra, us, ws, hp, hca, hcs, hra, hws⟩ := U.o
    have n9 := U.k.n9
    have g9 := U.k.g9
    have g3 := U.k.g3
    refine ⟨_, (pss_cons (ps_set (i := 1) sc_conflicts.nd rfl (Or.inl rfl) (pe_call G_live_masks (hr.mono (by decide)) rfl T.g_live_masks T.k_live_masks T.bd_live_masks .nil pass0 (pa_cons (pv 0) pa_nil)))
      (pss_cons (ps_set (i := 2) sc_conflicts.nd rfl (Or.inl rfl) (pe_op op_rep (pe_lst (pa_cons pe_int pa_nil)) (pe_fld (pv 0) rfl)))
      (pss_cons (ps_for PassesOwn.never rfl (My.pi_keysF (pe_dc (own := [("one", 4)]) (g := gName 4) rfl sc_conflicts.nd (pi_list (pv 1)) (blkOk_by (own := [("one", 4)]) (N := ["unit", "needed", "found", "mask", "one", "index", "instruction", "written", "target", "region"]) (sc := defScope s_conflicts) (by decide +kernel)) (fun _ _ _ _ _ => pg_name (i := 4) sc_conflicts.nd rfl (Or.inl rfl)) (fun _ _ _ _ _ => pts_nil) (fun _ _ _ _ _ => (pv 4)) (fun _ _ _ _ _ => pe_bl))) (pg_name (i := 3) sc_conflicts.nd rfl (Or.inl rfl)) (pss_one (ps_expr (pe_call G_add_conflicts (hr.mono (by decide)) rfl T.g__add_conflicts T.k__add_conflicts T.bd__add_conflicts .nil pass0 (pa_cons (pv 2) (pa_cons (pv 3) (pa_cons (pv 3) pa_nil)))))))
      (pss_cons (ps_for PassesOwn.never rfl (ET.pi_enT (by rfl) T.b_enumerate (pa_cons (pe_fld (pv 0) rfl) pa_nil)) (pg_tup rfl (pgs_cons (pg_name (i := 5) sc_conflicts.nd rfl (Or.inl rfl)) (pgs_cons (pg_name (i := 6) sc_conflicts.nd rfl (Or.inl rfl)) pgs_nil))) (pss_cons (ps_set (i := 7) sc_conflicts.nd rfl (Or.inl rfl) (pe_call G_mask_of (hr.mono (by decide)) rfl T.g_mask_of T.k_mask_of T.bd_mask_of .nil pass0 (pa_cons (pe_call G_writes (hr.mono (by decide)) rfl T.g_writes T.k_writes T.bd_writes .nil pass0 (pa_cons (pv 6) pa_nil)) pa_nil)))
      (pss_cons (ps_expr (pe_call G_add_conflicts (hr.mono (by decide)) rfl T.g__add_conflicts T.k__add_conflicts T.bd__add_conflicts .nil pass0 (pa_cons (pv 2) (pa_cons (pv 7) (pa_cons (pv 7) pa_nil)))))
      (pss_one (ps_for PassesOwn.never rfl (pi_tup (pe_call G_followers (hr.mono (by decide)) rfl T.g_followers T.k_followers T.bd_followers .nil pass0 (pa_cons (pv 6) (pa_cons (pv 5) pa_nil)))) (pg_name (i := 8) sc_conflicts.nd rfl (Or.inl rfl)) (pss_one (ps_expr (pe_call G_add_conflicts (hr.mono (by decide)) rfl T.g__add_conflicts T.k__add_conflicts T.bd__add_conflicts .nil pass0 (pa_cons (pv 2) (pa_cons (pv 7) (pa_cons (pe_ix ix_list (pv 1) (pv 8) (fun _ _ => rfl)) pa_nil)))))))))))
      (pss_cons (ps_for PassesOwn.never rfl (pi_tup (pe_fld (pv 0) rfl)) (pg_name (i := 9) sc_conflicts.nd rfl (Or.inl rfl)) (pss_cons (ps_set (i := 7) sc_conflicts.nd rfl (Or.inl rfl) (pe_call G_mask_of (hr.mono (by decide)) rfl T.g_mask_of T.k_mask_of T.bd_mask_of .nil pass0 (pa_cons (pe_slice sl_tup (pv 9) (po_some pe_int) po_none) pa_nil)))
      (pss_one (ps_expr (pe_call G_add_conflicts (hr.mono (by decide)) rfl T.g__add_conflicts T.k__add_conflicts T.bd__add_conflicts .nil pass0 (pa_cons (pv 2) (pa_cons (pv 7) (pa_cons (pe_op op_or (pv 7) (pe_ix ix_list (pv 1) (pe_ix ix_tup (pv 9) pe_int (fun _ _ => rfl)) (fun _ _ => rfl))) pa_nil))))))))
      (pss_one (ps_ret (pe_callTy call_tuple_of (by rfl) T.b_tuple (by decide +kernel) (pa_cons (pe_lc (own := [("mask", 3)]) (g := gName 3) rfl sc_conflicts.nd (pi_list (pe_call G_in_both_ways (hr.mono (by decide)) rfl T.g__in_both_ways T.k__in_both_ways T.bd__in_both_ways .nil pass0 (pa_cons (pv 2) pa_nil))) (blkOk_by (own := [("mask", 3)]) (N := ["unit", "needed", "found", "mask", "one", "index", "instruction", "written", "target", "region"]) (sc := defScope s_conflicts) (by decide +kernel)) (fun _ _ _ _ _ => pg_name (i := 3) sc_conflicts.nd rfl (Or.inl rfl)) (fun _ _ _ _ _ => pts_nil) (fun _ _ _ _ _ => (pe_call G_numbers_of (hr.mono (by decide)) rfl T.g_numbers_of T.k_numbers_of T.bd_numbers_of .nil pass0 (pa_cons (pv 3) pa_nil)))) pa_nil))))))))), ?_⟩
    refine ⟨_, rfl, p, dx, v0, v1, v2, .int g, v4, ca, ra, us, ws, g, xs, rs, rfl, hp, hca, hcs, hra, hws, U.k, fun N ms H1 nN hN lv s1 => ?_⟩
    refine ⟨(by show 1 ≤ sizeLine; decide), fun l1 m1 => ⟨_, rfl, p, a.C_Unit, dx, _, _, rfl, (sN s1 m1) _ _ hp, T.cl_Unit, T.n_Unit_registers, un_rs _ _ _ _ _ _ _, _, _, _, rfl, rfl, upd_same, by omega, by omega, (by simp; omega), fun F nF => ?_⟩⟩
    have s2 := sN s1 m1 (o := .lst [V.int 0])
    have s3 := sN s2 nF (o := .lst ((List.replicate g.toNat [V.int 0]).flatten))
    have nF0 := none_of s2 nF
    have hN2 : upd (upd H1 l1 (.lst [V.int 0])) F (.lst ((List.replicate g.toNat [V.int 0]).flatten)) N = some (.lst (bV ms)) := by rw [upd_ne (ne_of_none (by rw [upd_ne (ne_of_none hN m1)]; exact hN) nF), upd_ne (ne_of_none hN m1)]; exact hN
    have hF2 : upd (upd H1 l1 (.lst [V.int 0])) F (.lst ((List.replicate g.toNat [V.int 0]).flatten)) F = some (.lst (bV (List.replicate g.toNat 0))) := by rw [upd_same, rep_bV]
    have nFN : N ≠ F := ne_of_none (by rw [upd_ne (ne_of_none hN m1)]; exact hN) nF
    generalize upd (upd H1 l1 (.lst [V.int 0])) F (.lst ((List.replicate g.toNat [V.int 0]).flatten)) = H2 at s3 hN2 hF2
    clear nF s2 m1 nN hN s1
    have ebm : (bV ms).length = ms.length := bV_len ms
    have Wl := U.k.wel
    have hml := lv.len
    refine ⟨_, rfl, N, rfl, ⟨_, SqL.of hN2⟩, fun D nD => ?_⟩
    refine dc_it (walk_list (K := K) (a := N) (xs := bV ms)) (fun i H' => Same H2 H' ∧ ∃ kvs : List (Key × V), H' D = some (.dK kvs) ∧ kvs.length ≤ i ∧ (∀ k, (valV kvs k).isSome = true → ∃ m ∈ ms, k = .inl (m : Int)) ∧ ∀ j m, j < i → ms[j]? = some m → (valV kvs (.inl (m : Int))).isSome = true) ⟨sN (Same.refl H2) nD, [], upd_same, Nat.le_refl _, (fun k h => by rw [valV_nil] at h; cases h), fun j m h => absurd h (by omega)⟩ (fun i H' _ h => SqL.of (h.1 _ _ hN2)) ?_ ?_
    · rintro i x H3 H4 hi ⟨s4, kvs, hD, hk, k1, k2⟩ ⟨rfl, ex⟩
      obtain ⟨m, em, rfl⟩ := bV_get ex
      rw [ebm] at hi
      have kl : (putK kvs (.inl (m : Int)) (V.bl true)).length ≤ i + 1 := by
        unfold putK
        split
        · rw [List.length_map]; omega
        · rw [List.length_append]; simp; omega
      refine ⟨rfl, _, rfl, kvs, .inl (m : Int), rfl, hD, by omega, sUpd s4 nD, _, upd_same, kl, fun k h => ?_, fun j m' h e => ?_⟩
      · rw [valV_put] at h
        by_cases c : k = .inl (m : Int)
        · exact ⟨m, List.mem_of_getElem? em, c⟩
        · rw [if_neg c] at h
          exact k1 k h
      · rw [valV_put]
        by_cases c : (Sum.inl (m' : Int) : Key) = .inl (m : Int)
        · rw [if_pos c]; rfl
        · rw [if_neg c]
          by_cases c2 : j = i
          · subst c2
            rw [em] at e
            obtain rfl := Option.some.inj e
            exact absurd rfl c
          · exact k2 j m' (by omega) e
    · rintro H3 ⟨s4, kvs, hD, hk, k1, k2⟩
      rw [ebm] at hk k2
      refine ⟨D, kvs, rfl, hD, fun od => ?_⟩
      have nDF : F ≠ D := ne_of_none hF2 nD
      have s5 : Same H (upd H3 D (.frz od (.dK kvs))) := sUpd (sTr s3 s4) (none_of s3 nD)
      have s6 : Same H2 (upd H3 D (.frz od (.dK kvs))) := sUpd s4 nD
      have hd4 : upd H3 D (.frz od (.dK kvs)) D = some (.frz od (.dK kvs)) := upd_same
      have C0 : Cf K H (upd H3 D (.frz od (.dK kvs))) (upd H3 D (.frz od (.dK kvs))) F (List.replicate g.toNat 0) := ⟨s6 _ _ hF2, fun b o e _ => e, fun _ _ h => h, nF0⟩
      generalize upd H3 D (.frz od (.dK kvs)) = H5 at s5 s6 hd4 C0
      have hN5 := s6 _ _ hN2
      clear s4 hD nD hN2 hF2 s3 s6
      refine for_it (walk_keys (d := D) (o := od) (kvs := kvs)) (fun c σ H' => ∃ fs o3 o4 o5 o6 o7 o8 o9, Cf K H H5 H' F fs ∧ fs.length = g.toNat ∧ (∀ i j, gb fs i j = true ↔ ∃ m : Nat, (∃ v, ((Sum.inl (m : Int) : Key), v) ∈ kvs.take c) ∧ m.testBit i = true ∧ m.testBit j = true) ∧ σ = [some (.ref p), some (.ref N), some (.ref F), o3, o4, o5, o6, o7, o8, o9]) ⟨_, _, _, _, _, _, _, _, C0, by simp, fun i j => by simp [gb, List.getD, List.getElem?_replicate]; split <;> simp, rfl⟩ (fun c σ H' _ ⟨_, _, _, _, _, _, _, _, C, _⟩ => C.r _ _ hd4 nDF.symm) ?_ ?_
      · rintro c y σ H6 H7 hc ⟨fs, o3, o4, o5, o6, o7, o8, o9, C, fl, hg, rfl⟩ ⟨rfl, k, v, ek, rfl⟩
        obtain ⟨m, hm, rfl⟩ := k1 k (by rw [← valV_any]; exact List.any_eq_true.mpr ⟨_, List.mem_of_getElem? ek, decide_eq_true rfl⟩)
        obtain ⟨a0, ea⟩ := List.mem_iff_getElem?.mp hm
        have hbit : ∀ k, m.testBit k = true → k < fs.length := fun k hk => by
          rw [fl]
          exact lv.lt Wl (i := a0) (by rw [← hml]; exact (List.getElem?_eq_some_iff.mp ea).1) (by rw [List.getD_eq_getElem?_getD, ea]; exact hk)
        refine ⟨_, rfl, _, rfl, _, rfl, F, fs, m, m, rfl, C.f, hbit, by omega, fun fs' H8 hF8 l8 g8 fr => ⟨fs', _, _, _, _, _, _, _, C.step hF8 fr, by omega, fun i j => ?_, rfl⟩⟩
        rw [g8, Bool.or_eq_true, Bool.and_eq_true, hg, List.take_succ, ek]
        constructor
        · rintro (⟨m', ⟨v', hv⟩, b1, b2⟩ | ⟨b1, b2⟩)
          · exact ⟨m', ⟨v', List.mem_append.mpr (.inl hv)⟩, b1, b2⟩
          · exact ⟨m, ⟨v, by simp⟩, b1, b2⟩
        · rintro ⟨m', ⟨v', hv⟩, b1, b2⟩
          rcases List.mem_append.mp hv with z | z
          · exact .inl ⟨m', ⟨v', z⟩, b1, b2⟩
          · have e0 := List.mem_singleton.mp z
            injection e0 with e1 e2
            injection e1 with e1
            have : m' = m := by omega
            subst this
            exact .inr ⟨b1, b2⟩
      · rintro σ H6 ⟨fs, o3, o4, o5, o6, o7, o8, o9, C, fl, hg, rfl⟩
        rw [List.take_length] at hg
        have hA : ∀ i j, gb fs i j = true ↔ rawA ms i j := fun i j => by
          rw [hg]
          constructor
          · rintro ⟨m, ⟨v, hv⟩, b1, b2⟩
            obtain ⟨m', hm, e⟩ := k1 (.inl (m : Int)) (by rw [← valV_any]; exact List.any_eq_true.mpr ⟨_, hv, decide_eq_true rfl⟩)
            injection e with e
            have : m = m' := by omega
            subst this
            exact ⟨m, hm, b1, b2⟩
          · rintro ⟨m, hm, b1, b2⟩
            obtain ⟨a0, ea⟩ := List.mem_iff_getElem?.mp hm
            have := k2 a0 m (List.getElem?_eq_some_iff.mp ea).1 ea
            rw [← valV_any] at this
            obtain ⟨⟨k, v⟩, hv, e⟩ := List.any_eq_true.mp this
            have e := of_decide_eq_true e
            dsimp only at e
            subst e
            exact ⟨m, ⟨v, hv⟩, b1, b2⟩
        clear hg k1 k2
        have npF : p ≠ F := ne_of_none hp nF0
        have unitAt : ∀ {H' : Hp} {fs : List Nat}, Cf K H H5 H' F fs → H' p = some (.ins a.C_Unit dx (unF v0 v1 v2 (.int g) v4 (.ref ca) (.ref ra))) := fun C => C.r _ _ (s5 _ _ hp) npF
        have codeAt : ∀ {H' : Hp} {fs : List Nat}, Cf K H H5 H' F fs → SqT K H' ca us := fun C => C.k _ _ (seqT s5 hca)
        have regAt : ∀ {H' : Hp} {fs : List Nat}, Cf K H H5 H' F fs → SqT K H' ra ws := fun C => C.k _ _ (seqT s5 hra)
        have needAt : ∀ {H' : Hp} {fs : List Nat}, Cf K H H5 H' F fs → H' N = some (.lst (bV ms)) := fun C => C.r _ _ hN5 nFN
        have hlu : us.length = xs.length := by rw [hcs.len]; simp
        have hlw : ws.length = rs.length := by rw [hws.len]; simp
        refine ⟨_, rfl, p, a.C_Unit, dx, _, _, rfl, unitAt C, T.cl_Unit, T.n_Unit_code, un_cd _ _ _ _ _ _ _, ca, us, rfl, codeAt C, ?_⟩
        refine ET.for_enT (K := K) (a := ca) (xs := us) (fun c σ H' => ∃ fs o3 o4 o5 o6 o7 o8 o9, Cf K H H5 H' F fs ∧ fs.length = g.toNat ∧ (∀ i j, gb fs i j = true ↔ rawA ms i j ∨ rawB xs ms c i j) ∧ σ = [some (.ref p), some (.ref N), some (.ref F), o3, o4, o5, o6, o7, o8, o9]) ⟨fs, _, _, _, _, _, _, _, C, fl, fun i j => by rw [hA]; exact ⟨.inl, fun h => h.elim id fun ⟨a', _, h, _⟩ => absurd h (by omega)⟩, rfl⟩ (fun c σ H' _ ⟨_, _, _, _, _, _, _, _, C, _⟩ => codeAt C) ?_ ?_
        · clear hA fl C
          rintro c y σ H7 T2 hy ⟨fs, o3, o4, o5, o6, o7, o8, o9, C, fl, hg, rfl⟩ nT
          obtain ⟨d, ed, dy⟩ := hcs.at hy
          rw [List.getElem?_map] at ed
          obtain ⟨x, ex, rfl⟩ := Option.map_eq_some_iff.mp ed
          have hc : c < xs.length := (List.getElem?_eq_some_iff.mp ex).1
          have Ix := U.k.x c x ex
          refine ⟨T2, _, rfl, SqT.of upd_same, rfl, _, _, rfl, _, _, rfl, rfl, ?_⟩
          have C2 := C.same (sN (Same.refl _) nT (o := .tup [.int (c : Nat), y]))
          generalize upd H7 T2 (.tup [.int (c : Nat), y]) = H8 at C2
          have dv : ∀ {H' : Hp} {fs : List Nat}, Cf K H H5 H' F fs → DT K H' y x.D := fun C => (dy.keep (KT.same s5)).keep C.k
          refine ⟨_, rfl, y, x.nm, x.ds, _, rfl, dv C2, x.wrOk, fun u H9 du s9 => ⟨u, x.wrt, rfl, du, fun z hz => ?_, fun mw hmw => ?_⟩⟩
          · have := Ix.w z hz
            unfold In.rg at this
            omega
          have C3 := C2.same s9
          have hbit : ∀ k, mw.testBit k = true → k < fs.length := fun k hk => by
            rw [hmw k] at hk
            have := Ix.w _ (of_decide_eq_true hk)
            unfold In.rg at this
            omega
          refine ⟨_, rfl, _, rfl, _, rfl, F, fs, mw, mw, rfl, C3.f, hbit, by omega, fun fs1 H10 hF10 l10 g10 fr => ?_⟩
          have C4 := C3.step hF10 fr
          refine ⟨_, rfl, _, rfl, y, x.nm, x.ds, (x.folP c).map .int, (c : Int), rfl, dv C4, x.foOk c, fun u2 H11 du2 s11 => ?_⟩
          have C5 := C4.same s11
          obtain ⟨pa, zs, rfl, hzs, hd2⟩ := du2.ts
          obtain rfl := hd2.ints
          refine ⟨pa, rfl, ⟨_, hzs⟩, ?_⟩
          refine for_tup (K := K) (a := pa) (xs := (x.folP c).map V.int) (fun t σ H' => ∃ fs' o8, Cf K H H5 H' F fs' ∧ KT K H11 H' ∧ fs'.length = g.toNat ∧ (∀ i j, gb fs' i j = true ↔ gb fs1 i j = true ∨ ((i : Int) ∈ x.wrt ∧ ∃ tt ∈ (x.folP c).take t, bF ms tt j = true)) ∧ σ = [some (.ref p), some (.ref N), some (.ref F), o3, o4, some (.int (c : Nat)), some y, some (.int (mw : Int)), o8, o9]) ⟨fs1, _, C5, fun _ _ h => h, by omega, fun i j => by simp, rfl⟩ (fun t σ H' _ ⟨_, _, _, k, _⟩ => k _ _ hzs) ?_ ?_
          · rintro t z σ H12 hz' ⟨fs2, o8', C6, k6, l6, g6, rfl⟩
            rw [List.getElem?_map] at hz'
            obtain ⟨tt, et, rfl⟩ := Option.map_eq_some_iff.mp hz'
            have tm := List.mem_of_getElem? et
            rw [In.folP_mem] at tm
            obtain ⟨t0, t1⟩ := Ix.f tt tm
            obtain ⟨n, rfl⟩ := Int.eq_ofNat_of_zero_le t0
            have hn : n < ms.length := by omega
            refine ⟨_, rfl, _, rfl, _, rfl, _, rfl, _, _, _, _, rfl, rfl, SqL.of (needAt C6), atI_nat (bV_at hn), F, fs2, mw, ms.getD n 0, rfl, C6.f, fun k hk => by have := hbit k hk; omega, by omega, fun fs3 H13 hF13 l13 g13 fr2 => ⟨fs3, _, C6.step hF13 fr2, k6.tr (fr2.kt C6.f), by omega, fun i j => ?_, rfl⟩⟩
            rw [g13, Bool.or_eq_true, Bool.and_eq_true, g6, hmw i, decide_eq_true_eq, List.take_succ, et]
            have eb : bF ms (n : Int) j = (ms.getD n 0).testBit j := bF_nat ms n j
            constructor
            · rintro ((h | ⟨h1, tt, h2, h3⟩) | ⟨h1, h2⟩)
              · exact .inl h
              · exact .inr ⟨h1, tt, List.mem_append.mpr (.inl h2), h3⟩
              · exact .inr ⟨h1, (n : Int), by simp, by rw [eb]; exact h2⟩
            · rintro (h | ⟨h1, tt, h2, h3⟩)
              · exact .inl (.inl h)
              · rcases List.mem_append.mp h2 with z | z
                · exact .inl (.inr ⟨h1, tt, z, h3⟩)
                · have e0 : tt = (n : Int) := List.mem_singleton.mp z
                  subst e0
                  exact .inr ⟨h1, by rw [← eb]; exact h3⟩
          · rintro σ H12 ⟨fs2, o8', C6, k6, l6, g6, rfl⟩
            refine ⟨fs2, _, _, _, _, _, _, _, C6, l6, fun i j => ?_, rfl⟩
            rw [g6, g10, Bool.or_eq_true, Bool.and_eq_true, hg, hmw i, hmw j, decide_eq_true_eq, decide_eq_true_eq, List.length_map, List.take_length]
            constructor
            · rintro (((h | ⟨a', x', h1, h2, h3⟩) | ⟨h1, h2⟩) | ⟨h1, tt, h2, h3⟩)
              · exact .inl h
              · exact .inr ⟨a', x', by omega, h2, h3⟩
              · exact .inr ⟨c, x, by omega, ex, h1, .inl h2⟩
              · exact .inr ⟨c, x, by omega, ex, h1, .inr ⟨tt, (x.folP_mem c tt).mp h2, h3⟩⟩
            · rintro (h | ⟨a', x', h1, h2, h3, h4⟩)
              · exact .inl (.inl (.inl h))
              · by_cases e : a' = c
                · subst e
                  rw [ex] at h2
                  obtain rfl := Option.some.inj h2
                  rcases h4 with h4 | ⟨tt, h4, h5⟩
                  · exact .inl (.inr ⟨h3, h4⟩)
                  · exact .inr ⟨h3, tt, (x.folP_mem a' tt).mpr h4, h5⟩
                · exact .inl (.inl (.inr ⟨a', x', by omega, h2, h3, h4⟩))
        · clear hA fl C
          rintro σ H7 ⟨fs, o3, o4, o5, o6, o7, o8, o9, C, fl, hg, rfl⟩
          rw [hlu] at hg
          refine ⟨_, rfl, p, a.C_Unit, dx, _, _, rfl, unitAt C, T.cl_Unit, T.n_Unit_regions, un_rg _ _ _ _ _ _ _, ra, rfl, ⟨_, regAt C⟩, ?_⟩
          refine for_tup (K := K) (a := ra) (xs := ws) (fun c σ H' => ∃ fs o3 o4 o5 o6 o7 o8 o9, Cf K H H5 H' F fs ∧ fs.length = g.toNat ∧ (∀ i j, gb fs i j = true ↔ (rawA ms i j ∨ rawB xs ms xs.length i j) ∨ rawC (rs.take c) ms i j) ∧ σ = [some (.ref p), some (.ref N), some (.ref F), o3, o4, o5, o6, o7, o8, o9]) ⟨fs, _, _, _, _, _, _, _, C, fl, fun i j => by rw [hg]; exact ⟨.inl, fun h => h.elim id fun ⟨r, hr, _⟩ => absurd hr (by simp)⟩, rfl⟩ (fun c σ H' _ ⟨_, _, _, _, _, _, _, _, C, _⟩ => regAt C) ?_ ?_
          · clear fl hg C
            rintro c y σ H8 hy ⟨fs, o3, o4, o5, o6, o7, o8, o9, C, fl, hg, rfl⟩
            obtain ⟨d, ed, dy⟩ := hws.at hy
            rw [List.getElem?_map] at ed
            obtain ⟨r, er, rfl⟩ := Option.map_eq_some_iff.mp ed
            have Rr := U.k.r r (List.mem_of_getElem? er)
            obtain ⟨pr', zs, rfl, hzs, hd2⟩ := ((dy.keep (KT.same s5)).keep C.k).ts
            obtain rfl := hd2.ints
            obtain ⟨r0, r1, r2, r3, r4, e⟩ : ∃ r0 r1 r2 r3 r4, r = [r0, r1, r2, r3, r4] := by
              rcases r with _ | ⟨r0, _ | ⟨r1, _ | ⟨r2, _ | ⟨r3, _ | ⟨r4, _ | ⟨r5, r6⟩⟩⟩⟩⟩⟩
              all_goals first | exact ⟨_, _, _, _, _, rfl⟩ | (have := Rr.l; simp at this)
            subst e
            have a1 : 0 ≤ r0 ∧ r0 < r1 := Rr.a
            have a3 : r1 ≤ r2 ∧ r2 < xs.length := Rr.e
            have a4 : 0 ≤ r3 ∧ r3 < g := Rr.f
            have a5 : 0 ≤ r4 ∧ r4 < g := Rr.s
            obtain ⟨n, rfl⟩ := Int.eq_ofNat_of_zero_le (show 0 ≤ r2 by omega)
            have hn : n < ms.length := by omega
            refine ⟨_, rfl, _, rfl, pr', _, rfl, hzs, (show ¬ (HT.sIx 5 0 (some 3) = 0 ∧ HT.sIx 5 5 none = 5) by decide), fun q1 nq => ?_⟩
            have C2 := C.same (sN (Same.refl _) nq (o := .tup (cutV (([r0, r1, (n : Int), r3, r4] : List Int).map V.int) (some 3) none)))
            refine ⟨.ref q1, [r3, r4], rfl, .tup (SqT.of upd_same) (.cons (.int r3) (.cons (.int r4) .nil)), fun z hz => by simp only [List.mem_cons, List.not_mem_nil, or_false] at hz; omega, fun mw hmw => ?_⟩
            have hzs2 := KT.same (K := K) (sN (Same.refl _) nq (o := .tup (cutV (([r0, r1, (n : Int), r3, r4] : List Int).map V.int) (some 3) none))) _ _ hzs
            generalize upd H8 q1 (.tup (cutV (([r0, r1, (n : Int), r3, r4] : List Int).map V.int) (some 3) none)) = H9 at C2 hzs2
            have hbit : ∀ k, mw.testBit k = true → k < fs.length := fun k hk => by
              rw [hmw k] at hk
              have := of_decide_eq_true hk
              simp only [List.mem_cons, List.not_mem_nil, or_false] at this
              omega
            refine ⟨_, rfl, _, rfl, _, rfl, _, rfl, _, rfl, _, _, _, _, rfl, rfl, hzs2, atI_nat (j := 2) rfl, _, _, _, _, rfl, rfl, SqL.of (needAt C2), atI_nat (bV_at hn), _, _, rfl, rfl, F, fs, mw, mw ||| ms.getD n 0, by rw [← or_cast]; rfl, C2.f, hbit, by omega, fun fs1 H10 hF10 l10 g10 fr => ⟨fs1, _, _, _, _, _, _, _, C2.step hF10 fr, by omega, fun i j => ?_, rfl⟩⟩
            have eb : bF ms (n : Int) j = (ms.getD n 0).testBit j := bF_nat ms n j
            rw [g10, Bool.or_eq_true, Bool.and_eq_true, hg, hmw i, Nat.testBit_or, hmw j, Bool.or_eq_true, decide_eq_true_eq, decide_eq_true_eq, List.take_succ, er]
            constructor
            · rintro ((h | ⟨r, hr, h⟩) | ⟨h1, h2⟩)
              · exact .inl h
              · exact .inr ⟨r, List.mem_append.mpr (.inl hr), h⟩
              · exact .inr ⟨[r0, r1, (n : Int), r3, r4], by simp, h1, h2.imp id fun z => by show bF ms (n : Int) j = true; rw [eb]; exact z⟩
            · rintro (h | ⟨r, hr, h⟩)
              · exact .inl (.inl h)
              · rcases List.mem_append.mp hr with z | z
                · exact .inl (.inr ⟨r, z, h⟩)
                · have e0 := List.mem_singleton.mp z
                  subst e0
                  exact .inr ⟨h.1, h.2.imp id fun z => by have z : bF ms (n : Int) j = true := z; rw [← eb]; exact z⟩
          · clear fl hg C
            rintro σ H8 ⟨fs, o3, o4, o5, o6, o7, o8, o9, C, fl, hg, rfl⟩
            rw [hlw, List.take_length] at hg
            have bl : ∀ (t : Int) j, 0 ≤ t → t < xs.length → bF ms t j = true → j < g.toNat := fun t j h0 h1 h => by
              obtain ⟨n, rfl⟩ := Int.eq_ofNat_of_zero_le h0
              rw [bF_nat] at h
              exact lv.lt Wl (by omega) h
            have hb : ∀ i j, gb fs i j = true → j < fs.length := fun i j h => by
              rw [hg] at h
              rcases h with (⟨m, hm, _, h⟩ | ⟨a', x, h1, h2, h3, h4⟩) | ⟨r, hr, h1, h2⟩
              · obtain ⟨a0, ea⟩ := List.mem_iff_getElem?.mp hm
                rw [fl]
                exact lv.lt Wl (i := a0) (by rw [← hml]; exact (List.getElem?_eq_some_iff.mp ea).1) (by rw [List.getD_eq_getElem?_getD, ea]; exact h)
              · have Ix := U.k.x a' x h2
                rcases h4 with h4 | ⟨t, h4, h5⟩
                · have := Ix.w _ h4
                  unfold In.rg at this
                  omega
                · have := Ix.f t h4
                  rw [fl]
                  exact bl t j this.1 this.2 h5
              · have Rr := U.k.r r hr
                have b1 := Rr.a
                have b3 := Rr.e
                have b4 : 0 ≤ r.getD 3 0 ∧ r.getD 3 0 < g := Rr.f
                have b5 : 0 ≤ r.getD 4 0 ∧ r.getD 4 0 < g := Rr.s
                rcases h2 with h2 | h2
                · simp only [List.mem_cons, List.not_mem_nil, or_false] at h2
                  omega
                · rw [fl]
                  exact bl _ j (by omega) (by omega) h2
            refine ⟨_, rfl, F, fs, rfl, C.f, hb, by omega, fun L fs' H9 hL lf g2 s9 => ?_⟩
            refine ⟨L, rfl, ⟨_, SqL.of hL⟩, fun M nM => ?_⟩
            have hb3 : ∀ i j, i < g.toNat → gb fs' i j = true → j < g.toNat := fun i k hi e1 => by
              rw [g2 i k (by omega), Bool.and_eq_true, Bool.or_eq_true] at e1
              rcases e1.2 with z | z
              · have := hb i k z; omega
              · by_cases hk2 : k < fs.length
                · omega
                · have : gb fs k i = false := by
                    unfold gb
                    rw [List.getD_eq_getElem?_getD, List.getElem?_eq_none (by omega)]
                    simp
                  rw [this] at z
                  cases z
            have hb2 : ∀ i, i < fs'.length → Builtin.Int.intBits ((fs'.getD i 0 : Nat) : Int) ≤ 1000 := fun i hi => by
              have : Builtin.Int.intBits ((fs'.getD i 0 : Nat) : Int) ≤ fs.length := bits_le fun k hk => by
                have e1 : gb fs' i k = true := hk
                rw [g2 i k (by omega), Bool.and_eq_true, Bool.or_eq_true] at e1
                rcases e1.2 with z | z
                · exact hb i k z
                · by_cases hk2 : k < fs.length
                  · exact hk2
                  · have : gb fs k i = false := by
                      unfold gb
                      rw [List.getD_eq_getElem?_getD, List.getElem?_eq_none (by omega)]
                      simp
                    rw [this] at z
                    cases z
              omega
            refine lc_list (K := K) (a := L) (xs := bV fs') (fun i H' => Same H9 H' ∧ ∃ us, H' M = some (.lst us) ∧ us.length = i ∧ DTs K H' us ((fs'.take i).map nuD)) ⟨sN (Same.refl H9) nM, [], upd_same, rfl, .nil⟩ (fun i H' _ h => SqL.of (h.1 _ _ hL)) ?_ ?_
            · rintro i x H10 hx ⟨s10, vs, hM, vl, dv⟩
              obtain ⟨m, em, rfl⟩ := bV_get hx
              have hi : i < fs'.length := (List.getElem?_eq_some_iff.mp em).1
              have hbm := hb2 i hi
              rw [List.getD_eq_getElem?_getD, em] at hbm
              refine ⟨rfl, _, rfl, m, rfl, hbm, fun u H11 du s11 => ?_⟩
              refine ⟨_, s11 _ _ hM, by omega, sUpd (sTr s10 s11) nM, _, upd_same, by simp [vl], ?_⟩
              rw [List.take_succ, em, List.map_append]
              exact ((dv.keep (KT.same s11)).app (.cons du .nil)).keep (KT.put (s11 _ _ hM))
            · rintro H10 ⟨s10, vs, hM, vl, dv⟩
              rw [show (bV fs').length = fs'.length by simp [bV], List.take_length] at dv
              refine ⟨M, _, rfl, .inl ⟨SqL.of hM, fun t nt => ?_⟩⟩
              have s8 : Same H H8 := fun b o e => C.r b o (s5 b o e) (ne_of_none e C.z)
              refine q _ fs' ms _ (lay nt dv) lv (by omega) hb3 (fun i j hi => ?_) (sN (sTr s8 (sTr s9 s10)) nt)
              rw [g2 i j (by omega), Bool.and_eq_true, Bool.or_eq_true, hg, hg]
              have : (!decide (i = j)) = true ↔ i ≠ j := by simp
              rw [this]
              exact Iff.rfl
end

/-! ### the law's conflicts -/
def spLConf (K : PySem.W.Frag) (C : Addr) : Sp := fun vs H Q _ => ∃ (p : Addr) (g : Int) (xs : List In) (rs : List (List Int)), vs = [.ref p] ∧ UnP K C H p g xs rs ∧
  ∀ (L : Addr) (ps : Nat → Addr) (c : Nat → List Bool) (H' : Hp), Rw H H' L g.toNat ps c → (∀ i, i < g.toNat → (c i).length = g.toNat) → (∀ ms, Liv xs rs ms → ∀ i j, i < g.toNat → j < g.toNat → (rb c i j = true ↔ i ≠ j ∧ (raw xs rs ms i j ∨ raw xs rs ms j i))) → Same H H' → Q (.ref L) H'
def toN (l : List Int) : List Nat := l.map Int.toNat
theorem toN_V {l : List Int} (h : ∀ z ∈ l, 0 ≤ z) : nV (toN l) = l.map V.int := by
  unfold nV toN
  rw [List.map_map, List.map_inj_left]
  intro z hz
  have := h z hz
  show V.int ((z.toNat : Nat) : Int) = V.int z
  rw [Int.toNat_of_nonneg this]
theorem mem_toN {l : List Int} (h : ∀ z ∈ l, 0 ≤ z) {k : Nat} : k ∈ toN l ↔ (k : Int) ∈ l := by
  unfold toN
  rw [List.mem_map]
  constructor
  · rintro ⟨z, hz, e⟩
    have := h z hz
    rw [show (k : Int) = z by omega]; exact hz
  · exact fun h' => ⟨(k : Int), h', by simp⟩
theorem prs {R : Nat → Nat → Prop} {ns1 ns2 : List Nat} {c c' : Nat → List Bool} {i j : Nat} (h : rb c i j = true ↔ i ≠ j ∧ (R i j ∨ R j i)) (e : rb c' i j = (rb c i j || pr ns1 ns2 i j)) : rb c' i j = true ↔ i ≠ j ∧ ((R i j ∨ (i ∈ ns1 ∧ j ∈ ns2)) ∨ (R j i ∨ (j ∈ ns1 ∧ i ∈ ns2))) := by
  rw [e, Bool.or_eq_true, h]
  unfold pr
  rw [Bool.and_eq_true, Bool.or_eq_true, Bool.and_eq_true, Bool.and_eq_true, decide_eq_true_eq, decide_eq_true_eq, decide_eq_true_eq, decide_eq_true_eq, Bool.not_eq_true', decide_eq_false_iff_not]
  constructor
  · rintro (⟨h1, h2 | h2⟩ | ⟨h1, h2 | h2⟩)
    · exact ⟨h1, .inl (.inl h2)⟩
    · exact ⟨h1, .inr (.inl h2)⟩
    · exact ⟨h1, .inl (.inr h2)⟩
    · exact ⟨h1, .inr (.inr h2)⟩
  · rintro ⟨h1, (h2 | h2) | (h2 | h2)⟩
    · exact .inl ⟨h1, .inl h2⟩
    · exact .inr ⟨h1, .inl h2⟩
    · exact .inl ⟨h1, .inr h2⟩
    · exact .inr ⟨h1, .inr h2⟩
theorem cgr {R R' : Nat → Nat → Prop} {A : Prop} {i j : Nat} (h : A ↔ i ≠ j ∧ (R i j ∨ R j i)) (e : ∀ i j, R i j ↔ R' i j) : A ↔ i ≠ j ∧ (R' i j ∨ R' j i) := by
  rw [← e i j, ← e j i]; exact h
def rX (f : Nat → List Nat) (x : In) (a i j : Nat) : Prop := (i ∈ f a ∧ j ∈ f a) ∨ ((i : Int) ∈ x.wrt ∧ (j : Int) ∈ x.wrt) ∨ ((i : Int) ∈ x.wrt ∧ ∃ t ∈ x.fol a, j ∈ f t.toNat)
def rL (f : Nat → List Nat) (xs : List In) (c i j : Nat) : Prop := ∃ (a : Nat) (x : In), a < c ∧ xs[a]? = some x ∧ rX f x a i j
def r3 (f : Nat → List Nat) (xs : List In) (cc : Nat) (x : In) (t : Nat) (i j : Nat) : Prop := ((rL f xs cc i j ∨ (i ∈ f cc ∧ j ∈ f cc)) ∨ (i ∈ toN x.wrt ∧ j ∈ toN x.wrt)) ∨ (i ∈ toN x.wrt ∧ ∃ tt ∈ (x.fol (cc : Int)).take t, j ∈ f tt.toNat)
def rQ (f : Nat → List Nat) (r : List Int) (i j : Nat) : Prop := ((i : Int) ∈ [r.getD 3 0, r.getD 4 0] ∧ j ∈ f (r.getD 2 0).toNat) ∨ ((i : Int) = r.getD 3 0 ∧ (j : Int) = r.getD 4 0)
/-- lists of registers, one for each index -/
structure Lz (H' : Hp) (V1 : Addr) (n : Nat) (lv : Nat → Addr) (f : Nat → List Nat) : Prop where
  o : H' V1 = some (.lst ((List.range n).map fun k => V.ref (lv k)))
  r : ∀ k, k < n → H' (lv k) = some (.lst (nV (f k)))
def liF (c : Nat → List Bool) (g i : Nat) : List Nat := (List.range g).filter fun k => rb c i k
theorem mem_liF {c : Nat → List Bool} {g i k : Nat} : k ∈ liF c g i ↔ k < g ∧ rb c i k = true := by
  unfold liF
  rw [List.mem_filter, List.mem_range]
def rE (f : Nat → List Nat) (xs : List In) (rs : List (List Int)) (i j : Nat) : Prop := rL f xs xs.length i j ∨ ∃ r ∈ rs, rQ f r i j
structure Fd (K : PySem.W.Frag) (H0 H1 H' : Hp) (L : Addr) (g : Nat) (ps : Nat → Addr) (c : Nat → List Bool) : Prop where
  w : Rw H0 H' L g ps c
  l : ∀ i, i < g → (c i).length = g
  r : ∀ b o, H1 b = some o → (∀ k, k < g → b ≠ ps k) → H' b = some o
theorem Fd.same {K : PySem.W.Frag} {H0 H1 H' H'' : Hp} {L : Addr} {g : Nat} {ps : Nat → Addr} {c : Nat → List Bool} (h : Fd K H0 H1 H' L g ps c) (s : Same H' H'') : Fd K H0 H1 H'' L g ps c :=
  ⟨h.w.same s, h.l, fun b o e n => s _ _ (h.r b o e n)⟩
theorem Fd.step {K : PySem.W.Frag} {H0 H1 H' H'' : Hp} {L : Addr} {g : Nat} {ps : Nat → Addr} {c c' : Nat → List Bool} (h : Fd K H0 H1 H' L g ps c) (w : Rw H0 H'' L g ps c') (l : ∀ i, i < g → (c' i).length = g) (fr : FrR g ps H' H'') : Fd K H0 H1 H'' L g ps c' :=
  ⟨w, l, fun b o e n => fr b o (h.r b o e n) n⟩
section
variable {P : Program} {w : World} {K : PySem.W.Frag} {mg : Str → Option Value} {base : Heap} {a : Ad}
theorem ok_law_conflicts (T : Txt K mg a) : FnOk P w K mg base CX0 4 a.f_law_conflicts a.d_law_conflicts ["unit"] (spLConf K a.C_Unit) := by
  have G_law_live : FnOk P w K mg base CX0 3 _ _ _ _ := ok_law_live T
  have G_law_writes : FnOk P w K mg base CX0 1 _ _ _ _ := ok_law_writes T
  have G_law_onward : FnOk P w K mg base CX0 1 _ _ _ _ := ok_law_onward T
  have G_law_pairs : FnOk P w K mg base CX0 1 _ _ _ _ := ok_law_pairs T
  refine T.F__law_conflicts.ok sc_law_conflicts (fun vs H Q E h => ?_) (fun cdv A outer s H vs Q E hr h => ?_)
  · obtain ⟨_, _, _, _, rfl, _⟩ := h; rfl
  · obtain ⟨p, g, xs, rs, rfl, U, q⟩ := h
    have hz := sizeLine_eq
    obtain ⟨dx, v0, v1, v2, v4, ca, ra, us, ws, hp, hca, hcs, hra, hws⟩ := U.o
    have hlu : us.length = xs.length := by rw [hcs.len]; simp
    have n9 := U.k.n9
    have g9 := U.k.g9
    have g3 := U.k.g3
    refine ⟨_, (pss_cons (ps_setLc (i := 1) (own := [("row", 3)]) (g := gName 3) rfl sc_law_conflicts.nd rfl rfl (sw_true rfl rfl rfl (by decide +kernel)) (pi_list (pe_call G_law_live (hr.mono (by decide)) rfl T.g__law_live T.k__law_live T.bd__law_live .nil pass0 (pa_cons (pv 0) pa_nil))) (blkOk_by (own := [("row", 3)]) (N := ["unit", "live", "k", "row", "found", "index", "written", "following", "region"]) (sc := defScope s_law_conflicts) (by decide +kernel)) (fun _ _ _ _ _ => pg_name (i := 3) sc_law_conflicts.nd rfl (Or.inr rfl)) (fun _ _ _ _ _ => pts_nil) (fun _ _ _ _ _ => (pe_lc (own := [("k", 2)]) (g := gName 2) rfl sc_law_conflicts.nd (pi_range1 rfl T.b_range (pa_cons (pe_fldK (K := K) rfl (pv 0) rfl) pa_nil)) (blkOk_by (own := [("k", 2)]) (by rfl)) (fun _ _ _ _ _ => pg_name (i := 2) sc_law_conflicts.nd rfl (Or.inl rfl)) (fun _ _ _ _ _ => (pts_one (pt_val (pe_ix (ix_listK (K := K) rfl) (pv 3) (pv 2) (fun _ _ => rfl))))) (fun _ _ _ _ _ => (pv 2)))))
      (pss_cons (ps_setLc (i := 4) (own := [("k", 2)]) (g := gName 2) rfl sc_law_conflicts.nd rfl rfl (sw_true rfl rfl rfl (by decide +kernel)) (pi_range1 rfl T.b_range (pa_cons (pe_fld (pv 0) rfl) pa_nil)) (blkOk_by (own := [("k", 2)]) (N := ["unit", "live", "k", "row", "found", "index", "written", "following", "region"]) (sc := defScope s_law_conflicts) (by decide +kernel)) (fun _ _ _ _ _ => pg_name (i := 2) sc_law_conflicts.nd rfl (Or.inl rfl)) (fun _ _ _ _ _ => pts_nil) (fun _ _ _ _ _ => (pe_op op_rep (pe_lst (pa_cons pe_bl pa_nil)) (pe_fldK (K := K) rfl (pv 0) rfl))))
      (pss_cons (ps_for PassesOwn.never rfl (pi_range1 rfl T.b_range (pa_cons (pe_callB call_len_seq (by rfl) T.b_len (by decide +kernel) (pa_cons (pe_fld (pv 0) rfl) pa_nil)) pa_nil)) (pg_name (i := 5) sc_law_conflicts.nd rfl (Or.inl rfl)) (pss_cons (ps_set (i := 6) sc_law_conflicts.nd rfl (Or.inl rfl) (pe_call G_law_writes (hr.mono (by decide)) rfl T.g__law_writes T.k__law_writes T.bd__law_writes .nil pass0 (pa_cons (pe_ix ix_tup (pe_fld (pv 0) rfl) (pv 5) (fun _ _ => rfl)) pa_nil)))
      (pss_cons (ps_expr (pe_call G_law_pairs (hr.mono (by decide)) rfl T.g__law_pairs T.k__law_pairs T.bd__law_pairs .nil pass0 (pa_cons (pv 4) (pa_cons (pe_ix ix_list (pv 1) (pv 5) (fun _ _ => rfl)) (pa_cons (pe_ix ix_list (pv 1) (pv 5) (fun _ _ => rfl)) pa_nil)))))
      (pss_cons (ps_expr (pe_call G_law_pairs (hr.mono (by decide)) rfl T.g__law_pairs T.k__law_pairs T.bd__law_pairs .nil pass0 (pa_cons (pv 4) (pa_cons (pv 6) (pa_cons (pv 6) pa_nil)))))
      (pss_one (ps_for PassesOwn.never rfl (pi_list (pe_call G_law_onward (hr.mono (by decide)) rfl T.g__law_onward T.k__law_onward T.bd__law_onward .nil pass0 (pa_cons (pv 0) (pa_cons (pv 5) pa_nil)))) (pg_name (i := 7) sc_law_conflicts.nd rfl (Or.inl rfl)) (pss_one (ps_expr (pe_call G_law_pairs (hr.mono (by decide)) rfl T.g__law_pairs T.k__law_pairs T.bd__law_pairs .nil pass0 (pa_cons (pv 4) (pa_cons (pv 6) (pa_cons (pe_ix ix_list (pv 1) (pv 7) (fun _ _ => rfl)) pa_nil))))))))))))
      (pss_cons (ps_for PassesOwn.never rfl (pi_tup (pe_fld (pv 0) rfl)) (pg_name (i := 8) sc_law_conflicts.nd rfl (Or.inl rfl)) (pss_cons (ps_expr (pe_call G_law_pairs (hr.mono (by decide)) rfl T.g__law_pairs T.k__law_pairs T.bd__law_pairs .nil pass0 (pa_cons (pv 4) (pa_cons (pe_lst (pa_cons (pe_ix ix_tup (pv 8) pe_int (fun _ _ => rfl)) (pa_cons (pe_ix ix_tup (pv 8) pe_int (fun _ _ => rfl)) pa_nil))) (pa_cons (pe_ix ix_list (pv 1) (pe_ix ix_tup (pv 8) pe_int (fun _ _ => rfl)) (fun _ _ => rfl)) pa_nil)))))
      (pss_one (ps_expr (pe_call G_law_pairs (hr.mono (by decide)) rfl T.g__law_pairs T.k__law_pairs T.bd__law_pairs .nil pass0 (pa_cons (pv 4) (pa_cons (pe_lst (pa_cons (pe_ix ix_tup (pv 8) pe_int (fun _ _ => rfl)) pa_nil)) (pa_cons (pe_lst (pa_cons (pe_ix ix_tup (pv 8) pe_int (fun _ _ => rfl)) pa_nil)) pa_nil))))))))
      (pss_one (ps_ret (pv 4))))))), ?_⟩
    refine ⟨_, rfl, p, g, xs, rs, rfl, U, fun L0 ps0 c0 H1 R0 l0 e0 s1 => ?_⟩
    refine ⟨L0, rfl, ⟨_, SqL.of R0.o⟩, fun V1 nV1 => ?_⟩
    refine lc_list (K := K) (a := L0) (xs := (List.range xs.length).map fun k => V.ref (ps0 k)) (fun i H' => Same H1 H' ∧ ∃ lv, Lz H' V1 i lv (liF c0 g.toNat) ∧ ∀ k, k < i → lv k ≠ V1) ⟨sN (Same.refl H1) nV1, fun _ => V1, ⟨by rw [upd_same]; rfl, fun k h => absurd h (by omega)⟩, fun k h => absurd h (by omega)⟩ (fun i H' _ h => SqL.of (h.1 _ _ R0.o)) ?_ ?_
    · rintro i x H2 hx ⟨s2, lv, Z, zn⟩
      rw [List.getElem?_map] at hx
      obtain ⟨i', hi', rfl⟩ := Option.map_eq_some_iff.mp hx
      obtain ⟨hi, rfl⟩ : i < xs.length ∧ i = i' := by
        obtain ⟨h1, h2⟩ := List.getElem?_eq_some_iff.mp hi'
        exact ⟨by simpa using h1, by simpa using h2⟩
      have R2 := R0.same s2
      have s12 := sTr s1 s2
      refine ⟨rfl, _, rfl, p, a.C_Unit, dx, _, _, rfl, s12 _ _ hp, T.cl_Unit, T.n_Unit_registers, un_rs _ _ _ _ _ _ _, g, rfl, by omega, by omega, fun M nM => ?_⟩
      have nMV : M ≠ V1 := (ne_of_none Z.o nM).symm
      refine lc_range (lo := 0) (n := g.toNat) (fun k H' => Same H2 H' ∧ H' M = some (.lst (nV ((List.range k).filter fun k => rb c0 i k)))) ⟨sN (Same.refl H2) nM, upd_same⟩ ?_ ?_
      · rintro k H3 hk ⟨s3, hM⟩
        rw [show (0 : Int) + (k : Int) = (k : Int) from Int.zero_add _]
        have hr3 := s3 _ _ (R2.r i hi)
        have eb : ((c0 i).map V.bl)[k]? = some (V.bl (rb c0 i k)) := by
          have := l0 i hi
          rw [List.getElem?_map]
          unfold rb
          rw [List.getD_eq_getElem?_getD, List.getElem?_eq_getElem (by omega)]
          rfl
        refine ⟨rfl, _, rfl, _, rfl, _, _, _, _, rfl, rfl, SqL.of hr3, atI_nat eb, _, rfl, ?_⟩
        rw [List.range_succ, List.filter_append]
        have lf : ((List.range k).filter fun k => rb c0 i k).length ≤ k := Nat.le_trans (List.length_filter_le _ _) (by simp)
        cases e : rb c0 i k with
        | true =>
          refine iteT ⟨_, rfl, _, hM, by simp [nV]; omega, sUpd s3 nM, ?_⟩
          rw [upd_same]
          simp [nV, e]
        | false => exact iteF ⟨s3, by rw [hM]; simp [nV, e]⟩
      · rintro H3 ⟨s3, hM⟩
        have o3 := s3 _ _ Z.o
        have ml : ((List.range i).map fun k => V.ref (if k = i then M else lv k)) = (List.range i).map fun k => V.ref (lv k) := List.map_congr_left fun k hk => by rw [if_neg (by have := List.mem_range.mp hk; omega)]
        refine ⟨_, o3, by simp; omega, sUpd (sTr s2 s3) nV1, fun k => if k = i then M else lv k, ⟨by rw [upd_same, List.range_succ, List.map_append, ml, List.map_cons, List.map_nil, if_pos rfl], fun k hk => ?_⟩, fun k hk => ?_⟩
        · by_cases e : k = i
          · rw [if_pos e, e, upd_ne nMV]; exact hM
          · rw [if_neg e, upd_ne (zn k (by omega))]; exact s3 _ _ (Z.r k (by omega))
        · show (if k = i then M else lv k) ≠ V1
          by_cases e : k = i
          · rw [if_pos e]; exact nMV
          · rw [if_neg e]; exact zn k (by omega)
    · rintro H2 ⟨s2, lv, Z, zn⟩
      rw [rng_len] at Z
      have s12 := sTr s1 s2
      refine ⟨_, rfl, p, a.C_Unit, dx, _, _, rfl, s12 _ _ hp, T.cl_Unit, T.n_Unit_registers, un_rs _ _ _ _ _ _ _, g, rfl, by omega, by omega, fun L nL => ?_⟩
      refine lc_range (lo := 0) (n := g.toNat) (fun i H' => Same H2 H' ∧ ∃ ps, Rw H2 H' L i ps (fun _ => List.replicate g.toNat false)) ⟨sN (Same.refl H2) nL, fun _ => L, Rw.zero nL⟩ ?_ ?_
      · rintro i H3 hi ⟨s3, ps, R⟩
        have s13 := sTr s12 s3
        refine ⟨rfl, (by show 1 ≤ sizeLine; decide), fun l1 m1 => ⟨_, rfl, p, a.C_Unit, dx, _, _, rfl, (sN s13 m1) _ _ hp, T.cl_Unit, T.n_Unit_registers, un_rs _ _ _ _ _ _ _, _, _, _, rfl, rfl, upd_same, by omega, by omega, (by simp; omega), fun M nM => ?_⟩⟩
        have R4 := (R.new m1 (o := .lst [V.bl false])).new nM (o := .lst ((List.replicate g.toNat [V.bl false]).flatten))
        have s4 := sN (sN s3 m1 (o := .lst [V.bl false])) nM (o := .lst ((List.replicate g.toNat [V.bl false]).flatten))
        have nM0 := none_of (sN s3 m1 (o := .lst [V.bl false])) nM
        have R3 := R.new m1 (o := .lst [V.bl false])
        have hM : upd (upd H3 l1 (.lst [V.bl false])) M (.lst ((List.replicate g.toNat [V.bl false]).flatten)) M = some (.lst ((List.replicate g.toNat false).map V.bl)) := by rw [upd_same, rep_bl]
        refine ⟨_, R4.o, by simp; omega, sUpd s4 nL, fun k => if k = i then M else ps k, ?_⟩
        have := R4.grow hM nM0 (ne_of_none R3.o nM).symm fun k hk => ne_of_none (R3.r k hk) nM
        refine ⟨this.o, fun k hk => ?_, this.f, this.i, this.z⟩
        have h2 := this.r k hk
        rw [ite_self] at h2
        exact h2
      · rintro H3 ⟨s3, ps, R⟩
        have F0 : Fd K H H3 H3 L g.toNat ps (fun _ => List.replicate g.toNat false) := ⟨⟨R.o, R.r, fun k hk => ⟨none_of s12 (R.f k hk).1, (R.f k hk).2⟩, R.i, none_of s12 R.z⟩, fun i _ => by simp, fun b o e _ => e⟩
        have s13 := sTr s12 s3
        have npS : ∀ {b : Addr} {o : HO}, H2 b = some o → ∀ k, k < g.toNat → b ≠ ps k := fun e k hk => ne_of_none e (R.f k hk).1
        have Zf : ∀ {H' : Hp} {c}, Fd K H H3 H' L g.toNat ps c → Lz H' V1 xs.length lv (liF c0 g.toNat) := fun D => ⟨D.r _ _ (s3 _ _ Z.o) (npS Z.o), fun k hk => D.r _ _ (s3 _ _ (Z.r k hk)) (npS (Z.r k hk))⟩
        have upF : ∀ {H' : Hp} {c}, Fd K H H3 H' L g.toNat ps c → Same H2 H' := fun D b o e => D.r _ _ (s3 _ _ e) (npS e)
        have UF : ∀ {H' : Hp} {c}, Fd K H H3 H' L g.toNat ps c → Same H H' := fun D => sTr s12 (upF D)
        have lf : ∀ a' k, k ∈ liF c0 g.toNat a' → k < g.toNat := fun a' k h => (mem_liF.mp h).1
        have el : ∀ {m}, m < xs.length → ((List.range xs.length).map fun k => V.ref (lv k))[m]? = some (V.ref (lv m)) := fun h => by simp [h]
        refine ⟨_, rfl, p, a.C_Unit, dx, _, _, rfl, UF F0 _ _ hp, T.cl_Unit, T.n_Unit_code, un_cd _ _ _ _ _ _ _, ca, us, rfl, .inr (seqT (UF F0) hca), _, rfl, by omega, by omega, ?_⟩
        refine for_range (lo := 0) (n := ((us.length : Nat) : Int).toNat) (fun cc σ H' => ∃ c o2 o3 o5 o6 o7 o8, Fd K H H3 H' L g.toNat ps c ∧ (∀ i j, i < g.toNat → j < g.toNat → (rb c i j = true ↔ i ≠ j ∧ (rL (liF c0 g.toNat) xs cc i j ∨ rL (liF c0 g.toNat) xs cc j i))) ∧ σ = [some (.ref p), some (.ref V1), o2, o3, some (.ref L), o5, o6, o7, o8]) ⟨_, _, _, _, _, _, _, F0, fun i j hi hj => by
          constructor
          · intro h
            unfold rb at h
            rw [List.getD_eq_getElem?_getD, List.getElem?_replicate] at h
            split at h <;> simp at h
          · rintro ⟨_, ⟨_, _, h, _⟩ | ⟨_, _, h, _⟩⟩ <;> omega, rfl⟩ ?_ ?_
        · clear F0
          rintro cc σ H4 hcc ⟨c, o2, o3, o5, o6, o7, o8, D, hg, rfl⟩
          rw [Int.toNat_natCast, hlu] at hcc
          rw [show (0 : Int) + (cc : Int) = (cc : Int) from Int.zero_add _]
          obtain ⟨x, ex⟩ : ∃ x, xs[cc]? = some x := ⟨_, List.getElem?_eq_getElem hcc⟩
          obtain ⟨v, ev, dv⟩ := hcs.it cc (d := x.D) (by simp [ex])
          have Ix := U.k.x cc x ex
          have w0 : ∀ z ∈ x.wrt, 0 ≤ z := fun z hz => (Ix.w z hz).1
          have wN : ∀ k ∈ toN x.wrt, k < g.toNat := fun k hk => by
            have := Ix.w _ ((mem_toN w0).mp hk)
            unfold In.rg at this
            omega
          refine ⟨_, rfl, p, a.C_Unit, dx, _, _, rfl, UF D _ _ hp, T.cl_Unit, T.n_Unit_code, un_cd _ _ _ _ _ _ _, _, rfl, _, _, _, _, rfl, rfl, seqT (UF D) hca, ev, v, x, rfl, dv.keep (KT.same (UF D)), fun Wr H5 nW hW s5 => ?_⟩
          rw [← toN_V w0] at hW
          have D5 := D.same s5
          have nWp : ∀ k, k < g.toNat → Wr ≠ ps k := fun k hk => (ne_of_none (D.w.r k hk) nW).symm
          have vP : ∀ m, m < xs.length → ∀ k, k < g.toNat → lv m ≠ ps k := fun m hm => npS (Z.r m hm)
          have Z5 := Zf D5
          refine ⟨_, rfl, _, rfl, _, rfl, _, _, _, _, rfl, rfl, SqL.of Z5.o, atI_nat (el hcc), _, rfl, _, rfl, _, _, _, _, rfl, rfl, SqL.of Z5.o, atI_nat (el hcc), H, L, lv cc, lv cc, ps, c, g.toNat, liF c0 g.toNat cc, liF c0 g.toNat cc, rfl, D5.w, D5.l, Z5.r cc hcc, Z5.r cc hcc, fun k hk => ⟨vP cc hcc k hk, vP cc hcc k hk⟩, lf cc, lf cc, fun c1 H6 w6 l6 e6 fr6 => ?_⟩
          have D6 := D5.step w6 l6 fr6
          have hW6 := fr6 _ _ hW nWp
          refine ⟨_, rfl, _, rfl, _, rfl, H, L, Wr, Wr, ps, c1, g.toNat, toN x.wrt, toN x.wrt, rfl, D6.w, D6.l, hW6, hW6, fun k hk => ⟨nWp k hk, nWp k hk⟩, wN, wN, fun c2 H7 w7 l7 e7 fr7 => ?_⟩
          have D7 := D6.step w7 l7 fr7
          have hW7 := fr7 _ _ hW6 nWp
          refine ⟨_, rfl, _, rfl, p, g, xs, rs, cc, x, rfl, U.same (UF D7), ex, fun Fo H8 hFo s8 => ?_⟩
          have D8 := D7.same s8
          have hW8 := s8 _ _ hW7
          have nFo : ∀ k, k < g.toNat → Fo ≠ ps k := fun k hk e => by
            have h1 := D8.w.r k hk
            rw [← e, hFo] at h1
            have h2 := Option.some.inj h1
            injection h2 with h2
            have h3 := D8.l k hk
            cases hx2 : c2 k with
            | nil => rw [hx2] at h3; simp at h3; omega
            | cons b0 br =>
              rw [hx2] at h2
              cases hf2 : x.fol (cc : Int) with
              | nil => rw [hf2] at h2; simp at h2
              | cons z0 zr => rw [hf2] at h2; simp at h2
          refine ⟨Fo, rfl, ⟨_, SqL.of hFo⟩, ?_⟩
          refine for_list (K := K) (a := Fo) (xs := (x.fol (cc : Int)).map V.int) (fun t σ H' => ∃ c' o7, Fd K H H3 H' L g.toNat ps c' ∧ FrR g.toNat ps H8 H' ∧ (∀ i j, i < g.toNat → j < g.toNat → (rb c' i j = true ↔ i ≠ j ∧ (r3 (liF c0 g.toNat) xs cc x t i j ∨ r3 (liF c0 g.toNat) xs cc x t j i))) ∧ σ = [some (.ref p), some (.ref V1), o2, o3, some (.ref L), some (.int (cc : Int)), some (.ref Wr), o7, o8]) ⟨c2, _, D8, fun b o e _ => e, fun i j hi hj => cgr (R := fun i j => (rL (liF c0 g.toNat) xs cc i j ∨ (i ∈ liF c0 g.toNat cc ∧ j ∈ liF c0 g.toNat cc)) ∨ (i ∈ toN x.wrt ∧ j ∈ toN x.wrt)) (R' := r3 (liF c0 g.toNat) xs cc x 0) (prs (R := fun i j => rL (liF c0 g.toNat) xs cc i j ∨ (i ∈ liF c0 g.toNat cc ∧ j ∈ liF c0 g.toNat cc)) (prs (R := rL (liF c0 g.toNat) xs cc) (hg i j hi hj) (e6 i j hi hj)) (e7 i j hi hj)) fun i j => by unfold r3; simp, rfl⟩ (fun t σ H' _ ⟨_, _, _, fr, _⟩ => SqL.of (fr _ _ hFo nFo)) ?_ ?_
          · rintro t y σ H9 hy ⟨c', o7', D9, fr9, g9', rfl⟩
            rw [List.getElem?_map] at hy
            obtain ⟨tt, et, rfl⟩ := Option.map_eq_some_iff.mp hy
            obtain ⟨t0, t1⟩ := Ix.f tt (List.mem_of_getElem? et)
            obtain ⟨n, rfl⟩ := Int.eq_ofNat_of_zero_le t0
            have hn : n < xs.length := by omega
            have Z9 := Zf D9
            have hW9 := fr9 _ _ hW8 nWp
            refine ⟨_, rfl, _, rfl, _, rfl, _, rfl, _, _, _, _, rfl, rfl, SqL.of Z9.o, atI_nat (el hn), H, L, Wr, lv n, ps, c', g.toNat, toN x.wrt, liF c0 g.toNat n, rfl, D9.w, D9.l, hW9, Z9.r n hn, fun k hk => ⟨nWp k hk, vP n hn k hk⟩, wN, lf n, fun c3 H10 w10 l10 e10 fr10 => ⟨c3, _, D9.step w10 l10 fr10, fun b o e nb => fr10 _ _ (fr9 _ _ e nb) nb, fun i j hi hj => cgr (R := fun i j => r3 (liF c0 g.toNat) xs cc x t i j ∨ (i ∈ toN x.wrt ∧ j ∈ liF c0 g.toNat n)) (R' := r3 (liF c0 g.toNat) xs cc x (t + 1)) (prs (R := r3 (liF c0 g.toNat) xs cc x t) (g9' i j hi hj) (e10 i j hi hj)) fun i j => ?_, rfl⟩⟩
            unfold r3
            rw [List.take_succ, et]
            constructor
            · rintro ((h | ⟨h1, tt, h2, h3⟩) | ⟨h1, h2⟩)
              · exact .inl h
              · exact .inr ⟨h1, tt, List.mem_append.mpr (.inl h2), h3⟩
              · exact .inr ⟨h1, (n : Int), by simp, h2⟩
            · rintro (h | ⟨h1, tt, h2, h3⟩)
              · exact .inl (.inl h)
              · rcases List.mem_append.mp h2 with z | z
                · exact .inl (.inr ⟨h1, tt, z, h3⟩)
                · have e0 : tt = (n : Int) := List.mem_singleton.mp z
                  subst e0
                  exact .inr ⟨h1, h3⟩
          · rintro σ H9 ⟨c', o7', D9, fr9, g9', rfl⟩
            refine ⟨c', _, _, _, _, _, _, D9, fun i j hi hj => cgr (R' := rL (liF c0 g.toNat) xs (cc + 1)) (g9' i j hi hj) fun i j => ?_, rfl⟩
            unfold r3
            rw [List.length_map, List.take_length, mem_toN w0, mem_toN w0]
            constructor
            · rintro ((( ⟨a', x', h1, h2, h3⟩ | h) | h) | h)
              · exact ⟨a', x', by omega, h2, h3⟩
              · exact ⟨cc, x, by omega, ex, .inl h⟩
              · exact ⟨cc, x, by omega, ex, .inr (.inl h)⟩
              · exact ⟨cc, x, by omega, ex, .inr (.inr h)⟩
            · rintro ⟨a', x', h1, h2, h3⟩
              by_cases e : a' = cc
              · subst e
                rw [ex] at h2
                obtain rfl := Option.some.inj h2
                rcases h3 with h3 | h3 | h3
                · exact .inl (.inl (.inr h3))
                · exact .inl (.inr h3)
                · exact .inr h3
              · exact .inl (.inl (.inl ⟨a', x', by omega, h2, h3⟩))
        · rintro σ H4 ⟨c, o2, o3, o5, o6, o7, o8, D, hg, rfl⟩
          clear F0
          rw [Int.toNat_natCast, hlu] at hg
          refine ⟨_, rfl, p, a.C_Unit, dx, _, _, rfl, UF D _ _ hp, T.cl_Unit, T.n_Unit_regions, un_rg _ _ _ _ _ _ _, ra, rfl, ⟨_, seqT (UF D) hra⟩, ?_⟩
          refine for_tup (K := K) (a := ra) (xs := ws) (fun cc σ H' => ∃ c o2 o3 o5 o6 o7 o8, Fd K H H3 H' L g.toNat ps c ∧ (∀ i j, i < g.toNat → j < g.toNat → (rb c i j = true ↔ i ≠ j ∧ (rE (liF c0 g.toNat) xs (rs.take cc) i j ∨ rE (liF c0 g.toNat) xs (rs.take cc) j i))) ∧ σ = [some (.ref p), some (.ref V1), o2, o3, some (.ref L), o5, o6, o7, o8]) ⟨c, _, _, _, _, _, _, D, fun i j hi hj => cgr (R' := rE (liF c0 g.toNat) xs (rs.take 0)) (hg i j hi hj) fun i j => by unfold rE; simp, rfl⟩ (fun cc σ H' _ ⟨_, _, _, _, _, _, _, D, _⟩ => seqT (UF D) hra) ?_ ?_
          · clear D hg
            rintro cc y σ H5 hy ⟨c, o2, o3, o5, o6, o7, o8, D, hg, rfl⟩
            obtain ⟨d, ed, dy⟩ := hws.at hy
            rw [List.getElem?_map] at ed
            obtain ⟨r, er, rfl⟩ := Option.map_eq_some_iff.mp ed
            have Rr := U.k.r r (List.mem_of_getElem? er)
            obtain ⟨pr', zs, rfl, hzs, hd2⟩ := (dy.keep (KT.same (UF D))).ts
            obtain rfl := hd2.ints
            obtain ⟨r0, r1, r2, r3', r4, e⟩ : ∃ r0 r1 r2 r3 r4, r = [r0, r1, r2, r3, r4] := by
              rcases r with _ | ⟨r0, _ | ⟨r1, _ | ⟨r2, _ | ⟨r3, _ | ⟨r4, _ | ⟨r5, r6⟩⟩⟩⟩⟩⟩
              all_goals first | exact ⟨_, _, _, _, _, rfl⟩ | (have := Rr.l; simp at this)
            subst e
            have a1 : 0 ≤ r0 ∧ r0 < r1 := Rr.a
            have a3 : r1 ≤ r2 ∧ r2 < xs.length := Rr.e
            have a4 : 0 ≤ r3' ∧ r3' < g := Rr.f
            have a5 : 0 ≤ r4 ∧ r4 < g := Rr.s
            obtain ⟨n, rfl⟩ := Int.eq_ofNat_of_zero_le (show 0 ≤ r2 by omega)
            obtain ⟨k3, rfl⟩ := Int.eq_ofNat_of_zero_le (show 0 ≤ r3' by omega)
            obtain ⟨k4, rfl⟩ := Int.eq_ofNat_of_zero_le (show 0 ≤ r4 by omega)
            have hn : n < xs.length := by omega
            have vP : ∀ k, k < g.toNat → lv n ≠ ps k := npS (Z.r n hn)
            refine ⟨_, rfl, _, rfl, _, _, _, _, rfl, rfl, hzs, atI_nat (j := 3) rfl, _, rfl, _, _, _, _, rfl, rfl, hzs, atI_nat (j := 4) rfl, (by show 2 ≤ sizeLine; decide), fun A1 n1 => ?_⟩
            have t1 := sN (Same.refl H5) n1 (o := .lst [.int (k3 : Int), .int (k4 : Int)])
            have D1 := D.same t1
            have Z1 := Zf D1
            have hA1 : upd H5 A1 (.lst [.int (k3 : Int), .int (k4 : Int)]) A1 = some (.lst (nV [k3, k4])) := by rw [upd_same]; rfl
            have nA1 : ∀ k, k < g.toNat → A1 ≠ ps k := fun k hk => (ne_of_none (D.w.r k hk) n1).symm
            refine ⟨_, rfl, _, rfl, _, _, _, _, rfl, rfl, seqT t1 hzs, atI_nat (j := 2) rfl, _, _, _, _, rfl, rfl, SqL.of Z1.o, atI_nat (el hn), H, L, A1, lv n, ps, c, g.toNat, [k3, k4], liF c0 g.toNat n, rfl, D1.w, D1.l, hA1, Z1.r n hn, fun k hk => ⟨nA1 k hk, vP k hk⟩, fun k hk => by simp only [List.mem_cons, List.not_mem_nil, or_false] at hk; omega, lf n, fun c1 H6 w6 l6 e6 fr6 => ?_⟩
            have D6 := D1.step w6 l6 fr6
            obtain ⟨pr2, zs2, ee, hzs6, hd3⟩ := (dy.keep (KT.same (UF D6))).ts
            obtain rfl := hd3.ints
            injection ee with ee
            subst ee
            refine ⟨_, rfl, _, rfl, _, _, _, _, rfl, rfl, hzs6, atI_nat (j := 3) rfl, (by show 1 ≤ sizeLine; decide), fun A2 n2 => ?_⟩
            have t2 := sN (Same.refl H6) n2 (o := .lst [.int (k3 : Int)])
            refine ⟨_, rfl, _, _, _, _, rfl, rfl, seqT t2 hzs6, atI_nat (j := 4) rfl, (by show 1 ≤ sizeLine; decide), fun A3 n3 => ?_⟩
            have t3 := sN t2 n3 (o := .lst [.int (k4 : Int)])
            have D8 := D6.same t3
            have hA3 : upd (upd H6 A2 (.lst [.int (k3 : Int)])) A3 (.lst [.int (k4 : Int)]) A3 = some (.lst (nV [k4])) := by rw [upd_same]; rfl
            have hA2 : upd (upd H6 A2 (.lst [.int (k3 : Int)])) A3 (.lst [.int (k4 : Int)]) A2 = some (.lst (nV [k3])) := by rw [upd_ne (ne_of_none upd_same n3), upd_same]; rfl
            have nA2 : ∀ k, k < g.toNat → A2 ≠ ps k := fun k hk => (ne_of_none (D6.w.r k hk) n2).symm
            have nA3 : ∀ k, k < g.toNat → A3 ≠ ps k := fun k hk => (ne_of_none (t2 _ _ (D6.w.r k hk)) n3).symm
            refine ⟨H, L, A2, A3, ps, c1, g.toNat, [k3], [k4], rfl, D8.w, D8.l, hA2, hA3, fun k hk => ⟨nA2 k hk, nA3 k hk⟩, fun k hk => by have := List.mem_singleton.mp hk; omega, fun k hk => by have := List.mem_singleton.mp hk; omega, fun c2 H9 w9 l9 e9 fr9 => ⟨c2, _, _, _, _, _, _, D8.step w9 l9 fr9, fun i j hi hj => cgr (R := fun i j => (rE (liF c0 g.toNat) xs (rs.take cc) i j ∨ (i ∈ [k3, k4] ∧ j ∈ liF c0 g.toNat n)) ∨ (i ∈ [k3] ∧ j ∈ [k4])) (R' := rE (liF c0 g.toNat) xs (rs.take (cc + 1))) (prs (R := fun i j => rE (liF c0 g.toNat) xs (rs.take cc) i j ∨ (i ∈ [k3, k4] ∧ j ∈ liF c0 g.toNat n)) (prs (R := rE (liF c0 g.toNat) xs (rs.take cc)) (hg i j hi hj) (e6 i j hi hj)) (e9 i j hi hj)) fun i j => ?_, rfl⟩⟩
            unfold rE
            rw [List.take_succ, er]
            have eq1 : (i ∈ [k3, k4] ∧ j ∈ liF c0 g.toNat n) ∨ (i ∈ [k3] ∧ j ∈ [k4]) ↔ rQ (liF c0 g.toNat) [r0, r1, (n : Int), (k3 : Int), (k4 : Int)] i j := by
              unfold rQ
              simp only [List.mem_cons, List.not_mem_nil, or_false]
              constructor
              · rintro (⟨h1, h2⟩ | ⟨h1, h2⟩)
                · exact .inl ⟨by show (i : Int) = (k3 : Int) ∨ (i : Int) = (k4 : Int); omega, h2⟩
                · exact .inr ⟨by show (i : Int) = (k3 : Int); omega, by show (j : Int) = (k4 : Int); omega⟩
              · rintro (⟨h1, h2⟩ | ⟨h1, h2⟩)
                · have h1 : (i : Int) = (k3 : Int) ∨ (i : Int) = (k4 : Int) := h1
                  exact .inl ⟨by omega, h2⟩
                · have h1 : (i : Int) = (k3 : Int) := h1
                  have h2 : (j : Int) = (k4 : Int) := h2
                  exact .inr ⟨by omega, by omega⟩
            constructor
            · rintro ((h | h) | h)
              · rcases h with h | ⟨r, hr, h⟩
                · exact .inl h
                · exact .inr ⟨r, List.mem_append.mpr (.inl hr), h⟩
              · exact .inr ⟨_, List.mem_append.mpr (.inr (List.mem_singleton.mpr rfl)), eq1.mp (.inl h)⟩
              · exact .inr ⟨_, List.mem_append.mpr (.inr (List.mem_singleton.mpr rfl)), eq1.mp (.inr h)⟩
            · rintro (h | ⟨r, hr, h⟩)
              · exact .inl (.inl (.inl h))
              · rcases List.mem_append.mp hr with z | z
                · exact .inl (.inl (.inr ⟨r, z, h⟩))
                · have e0 := List.mem_singleton.mp z
                  subst e0
                  rcases eq1.mpr h with h | h
                  · exact .inl (.inr h)
                  · exact .inr h
          · rintro σ H5 ⟨c, o2, o3, o5, o6, o7, o8, D, hg, rfl⟩
            rw [show ws.length = rs.length by rw [hws.len]; simp, List.take_length] at hg
            refine ⟨_, rfl, q L ps c H5 D.w D.l (fun ms lv i j hi hj => ?_) (UF D)⟩
            rw [hg i j hi hj]
            have ml : ∀ {a' k}, a' < xs.length → k < g.toNat → (k ∈ liF c0 g.toNat a' ↔ (ms.getD a' 0).testBit k = true) := fun ha hk => by
              rw [mem_liF, e0 ms lv _ _ ha hk]
              exact ⟨fun h => h.2, fun h => ⟨hk, h⟩⟩
            have mt : ∀ {t : Int} {k}, 0 ≤ t → t < xs.length → k < g.toNat → (k ∈ liF c0 g.toNat t.toNat ↔ bF ms t k = true) := fun h0 h1 hk => ml (by omega) hk
            have to : ∀ i j, i < g.toNat → j < g.toNat → rE (liF c0 g.toNat) xs rs i j → raw xs rs ms i j := fun i j hi hj h => by
              rcases h with ⟨a', x, h1, h2, h3 | h3 | ⟨h3, t, h4, h5⟩⟩ | ⟨r, hr, ⟨h1, h2⟩ | h1⟩
              · exact .inl (.inl ⟨ms.getD a' 0, by rw [List.getD_eq_getElem?_getD, List.getElem?_eq_getElem (by rw [lv.len]; omega)]; exact List.getElem_mem _, (ml h1 hi).mp h3.1, (ml h1 hj).mp h3.2⟩)
              · exact .inl (.inr ⟨a', x, h1, h2, h3.1, .inl h3.2⟩)
              · have Ix := (U.k.x a' x h2).f t h4
                exact .inl (.inr ⟨a', x, h1, h2, h3, .inr ⟨t, h4, (mt Ix.1 Ix.2 hj).mp h5⟩⟩)
              · have Rr := U.k.r r hr
                have b1 := Rr.a
                have b3 := Rr.e
                exact .inr ⟨r, hr, h1, .inr ((mt (by omega) (by omega) hj).mp h2)⟩
              · exact .inr ⟨r, hr, by simp [h1.1], .inl (by simp [h1.2])⟩
            have of' : ∀ i j, i < g.toNat → j < g.toNat → i ≠ j → raw xs rs ms i j → rE (liF c0 g.toNat) xs rs i j ∨ rE (liF c0 g.toNat) xs rs j i := fun i j hi hj ne h => by
              rcases h with (⟨m, hm, h1, h2⟩ | ⟨a', x, h1, h2, h3, h4⟩) | ⟨r, hr, h1, h2⟩
              · obtain ⟨a0, ea⟩ := List.mem_iff_getElem?.mp hm
                have ha : a0 < xs.length := by rw [← lv.len]; exact (List.getElem?_eq_some_iff.mp ea).1
                have e1 : ms.getD a0 0 = m := by rw [List.getD_eq_getElem?_getD, ea]; rfl
                exact .inl (.inl ⟨a0, _, ha, List.getElem?_eq_getElem ha, .inl ⟨(ml ha hi).mpr (by rw [e1]; exact h1), (ml ha hj).mpr (by rw [e1]; exact h2)⟩⟩)
              · rcases h4 with h4 | ⟨t, h4, h5⟩
                · exact .inl (.inl ⟨a', x, h1, h2, .inr (.inl ⟨h3, h4⟩)⟩)
                · have Ix := (U.k.x a' x h2).f t h4
                  exact .inl (.inl ⟨a', x, h1, h2, .inr (.inr ⟨h3, t, h4, (mt Ix.1 Ix.2 hj).mpr h5⟩)⟩)
              · have Rr := U.k.r r hr
                have b1 := Rr.a
                have b3 := Rr.e
                rcases h2 with h2 | h2
                · simp only [List.mem_cons, List.not_mem_nil, or_false] at h1 h2
                  rcases h1 with h1 | h1 <;> rcases h2 with h2 | h2
                  · omega
                  · exact .inl (.inr ⟨r, hr, .inr ⟨h1, h2⟩⟩)
                  · exact .inr (.inr ⟨r, hr, .inr ⟨h2, h1⟩⟩)
                  · omega
                · exact .inl (.inr ⟨r, hr, .inl ⟨h1, (mt (by omega) (by omega) hj).mpr h2⟩⟩)
            constructor
            · rintro ⟨ne, h | h⟩
              · exact ⟨ne, .inl (to i j hi hj h)⟩
              · exact ⟨ne, .inr (to j i hj hi h)⟩
            · rintro ⟨ne, h | h⟩
              · exact ⟨ne, of' i j hi hj ne h⟩
              · exact ⟨ne, (of' j i hj hi (Ne.symm ne) h).symm⟩
end

/-! ### rules: == and in of data -/
section
variable {X : Cx}
theorem op_eqDK {K : PySem.W.Frag} (h : X.K = K) (hu : X.A.units + 64 < cLine) : OpR X (compareOp .Eq) (rEqD K) := by
  subst h
  exact op_eqD hu
theorem op_neDK {K : PySem.W.Frag} (h : X.K = K) (hu : X.A.units + 64 < cLine) : OpR X (compareOp .NotEq) (rNeD K) := by
  subst h
  exact op_neD hu
theorem u65 {k : Nat} {A : Around} (r : Room k A) : A.units + 65 < cLine := by have := r.un; omega
end
/-! ### places -/
inductive Pl where
  | no
  | lo (n : Nat)
  | inn (n : Nat)
  | sl (n : Nat)
deriving DecidableEq
def plD : Pl → PyData
  | .no => .none
  | .lo n => .tuple [.str "local", .int (n : Int)]
  | .inn n => .tuple [.str "in", .int (n : Int)]
  | .sl n => .tuple [.str "slot", .int (n : Int)]
def plN (i : Nat) : Pl := if i < 8 then .lo i else if i < 14 then .inn (i - 8) else .sl (i - 14)
theorem plN_inj {i j : Nat} (h : plN i = plN j) : i = j := by
  unfold plN at h
  split at h <;> split at h <;> (try split at h) <;> (try split at h) <;> (simp only [Pl.lo.injEq, Pl.inn.injEq, Pl.sl.injEq, reduceCtorEq] at h) <;> omega
theorem plN_no (i : Nat) : plN i ≠ .no := by
  unfold plN
  split
  · exact fun z => nomatch z
  · split
    · exact fun z => nomatch z
    · exact fun z => nomatch z
theorem sh_pair {s : Str} {i : Int} (h : PyData.canLay0 (.str s) = true) : Sh 1 (.tuple [.str s, .int i]) := sh_tup fun d hd => by
  simp only [List.mem_cons, List.not_mem_nil, or_false] at hd
  rcases hd with rfl | rfl
  · exact sh_str h
  · exact sh_int _
theorem sh_pl (p : Pl) : Sh 1 (plD p) := by
  cases p with
  | no => exact ⟨by unfold plD PyData.canLay0; rfl, by unfold plD PyData.depth; exact Nat.zero_le _⟩
  | lo n => exact sh_pair (by unfold PyData.canLay0; decide +kernel)
  | inn n => exact sh_pair (by unfold PyData.canLay0; decide +kernel)
  | sl n => exact sh_pair (by unfold PyData.canLay0; decide +kernel)
theorem pl_shaped (p : Pl) : SeqAt.shaped (plD p) = true := (sh_pl p).shaped (by decide)
theorem pls_shaped (ps : List Pl) : SeqAt.shaped (.list (ps.map plD)) = true := by
  obtain ⟨h1, h2⟩ := sh_all (n := 1) (ds := ps.map plD) fun d hd => by
    obtain ⟨p, _, rfl⟩ := List.mem_map.mp hd
    exact sh_pl p
  unfold SeqAt.shaped
  rw [show PyData.canLay0 (.list (ps.map plD)) = true by unfold PyData.canLay0; exact h1, Bool.true_and]
  refine decide_eq_true ?_
  unfold PyData.depth
  omega
theorem s_li : ((Str.ofString "local" : Str) == (Str.ofString "in" : Str)) = false := by decide +kernel
theorem s_ls : ((Str.ofString "local" : Str) == (Str.ofString "slot" : Str)) = false := by decide +kernel
theorem s_il : ((Str.ofString "in" : Str) == (Str.ofString "local" : Str)) = false := by decide +kernel
theorem s_is : ((Str.ofString "in" : Str) == (Str.ofString "slot" : Str)) = false := by decide +kernel
theorem s_sl : ((Str.ofString "slot" : Str) == (Str.ofString "local" : Str)) = false := by decide +kernel
theorem s_si : ((Str.ofString "slot" : Str) == (Str.ofString "in" : Str)) = false := by decide +kernel
theorem int_beq {n m : Nat} : ((n : Int) == (m : Int)) = decide (n = m) := by
  rw [Bool.eq_iff_iff, beq_iff_eq, decide_eq_true_eq]
  omega
theorem pl_eqv (p q : Pl) : PyData.eqv (plD p) (plD q) = decide (p = q) := by
  cases p with
  | no => cases q with
    | no => simp [plD, PyData.eqv]
    | lo m => rw [decide_eq_false (fun z => nomatch z)]; simp [plD, PyData.eqv]
    | inn m => rw [decide_eq_false (fun z => nomatch z)]; simp [plD, PyData.eqv]
    | sl m => rw [decide_eq_false (fun z => nomatch z)]; simp [plD, PyData.eqv]
  | lo n => cases q with
    | no => rw [decide_eq_false (fun z => nomatch z)]; simp [plD, PyData.eqv]
    | lo m => simp only [plD, PyData.eqv, PyData.eqvAll, int_beq, Pl.lo.injEq]; simp
    | inn m => rw [decide_eq_false (fun z => nomatch z)]; simp only [plD, PyData.eqv, PyData.eqvAll, s_li, Bool.false_and]
    | sl m => rw [decide_eq_false (fun z => nomatch z)]; simp only [plD, PyData.eqv, PyData.eqvAll, s_ls, Bool.false_and]
  | inn n => cases q with
    | no => rw [decide_eq_false (fun z => nomatch z)]; simp [plD, PyData.eqv]
    | lo m => rw [decide_eq_false (fun z => nomatch z)]; simp only [plD, PyData.eqv, PyData.eqvAll, s_il, Bool.false_and]
    | inn m => simp only [plD, PyData.eqv, PyData.eqvAll, int_beq, Pl.inn.injEq]; simp
    | sl m => rw [decide_eq_false (fun z => nomatch z)]; simp only [plD, PyData.eqv, PyData.eqvAll, s_is, Bool.false_and]
  | sl n => cases q with
    | no => rw [decide_eq_false (fun z => nomatch z)]; simp [plD, PyData.eqv]
    | lo m => rw [decide_eq_false (fun z => nomatch z)]; simp only [plD, PyData.eqv, PyData.eqvAll, s_sl, Bool.false_and]
    | inn m => rw [decide_eq_false (fun z => nomatch z)]; simp only [plD, PyData.eqv, PyData.eqvAll, s_si, Bool.false_and]
    | sl m => simp only [plD, PyData.eqv, PyData.eqvAll, int_beq, Pl.sl.injEq]; simp
theorem pl_any (p : Pl) (ps : List Pl) : ((ps.map plD).any fun z => PyData.eqv z (plD p)) = decide (p ∈ ps) := by
  rw [Bool.eq_iff_iff, List.any_eq_true, decide_eq_true_eq]
  constructor
  · rintro ⟨z, hz, e⟩
    obtain ⟨q, hq, rfl⟩ := List.mem_map.mp hz
    rw [pl_eqv, decide_eq_true_eq] at e
    exact e ▸ hq
  · intro h
    exact ⟨plD p, List.mem_map.mpr ⟨p, h, rfl⟩, by rw [pl_eqv, decide_eq_true_eq]⟩
/-- the first place that is free -/
def ffI (ps : List Pl) (i : Nat) : Prop := plN i ∉ ps ∧ ∀ j, j < i → plN j ∈ ps
theorem ffI_le : ∀ {i : Nat} {ps : List Pl}, (∀ j, j < i → plN j ∈ ps) → i ≤ ps.length
  | 0, _, _ => Nat.zero_le _
  | i + 1, ps, h => by
    have m := h i (by omega)
    have : i ≤ (ps.erase (plN i)).length := ffI_le fun j hj => (List.mem_erase_of_ne fun z => by have := plN_inj z; omega).mpr (h j (by omega))
    rw [List.length_erase_of_mem m] at this
    have : 0 < ps.length := List.length_pos_of_mem m
    omega
theorem ffI_uniq {ps : List Pl} {i j : Nat} (h : ffI ps i) (g : ffI ps j) : i = j := by
  rcases Nat.lt_trichotomy i j with z | z | z
  · exact absurd (g.2 i z) h.1
  · exact z
  · exact absurd (h.2 j z) g.1
/-- the place by the two sides of a pair -/
theorem pl_tup {K : PySem.W.Frag} {H : Hp} {t : Addr} {s : Str} {n : Nat} {p : Pl} (e : plD p = .tuple [.str s, .int (n : Int)]) (h : SqT K H t [.str s, .int (n : Int)]) : DT K H (.ref t) (plD p) := by
  rw [e]
  exact .tup h (.cons (.str _) (.cons (.int _) .nil))
def spFFA (K : PySem.W.Frag) : Sp := fun vs H Q _ => ∃ (L : Addr) (us : List V) (ps : List Pl), vs = [.ref L] ∧ H L = some (.lst us) ∧ DTs K H us (ps.map plD) ∧ ps.length ≤ 900 ∧
  ∀ (i : Nat) (u : V) (H' : Hp), ffI ps i → DT K H' u (plD (plN i)) → Same H H' → Q u H'
section
variable {P : Program} {w : World} {K : PySem.W.Frag} {mg : Str → Option Value} {base : Heap} {a : Ad}
theorem ok_first_free_assign (T : Txt K mg a) : FnOk P w K mg base CX0 1 a.f_first_free_assign a.d_first_free_assign ["places"] (spFFA K) := by
  refine T.F_first_free_assign.ok sc_first_free_assign (fun vs H Q E h => ?_) (fun cdv A outer s H vs Q E hr h => ?_)
  · obtain ⟨_, _, _, rfl, _⟩ := h; rfl
  · obtain ⟨L, us, ps, rfl, hL, hd, hl, q⟩ := h
    have hz := sizeLine_eq
    have hD : ∀ {H' : Hp}, Same H H' → Dp K H' (.ref L) (.list (ps.map plD)) := fun s => .lst (SqL.of (s _ _ hL)) (hd.keep (KT.same s)).dps
    refine ⟨_, (C8.pss_cut (ps_for PassesOwn.never rfl (pi_range1 rfl T.b_range (pa_cons (pe_glob (v := .int (8)) rfl T.g_LOCALS ⟨_, rfl⟩) pa_nil)) (pg_name (i := 1) sc_first_free_assign.nd rfl (Or.inl rfl)) (pss_one (ps_if (pt_cmpR (op_notInD (My.u65 hr)) (pe_tup (pa_cons pe_str (pa_cons (pv 1) pa_nil))) (pv 0) rfl) (pss_one (ps_ret (pe_tup (pa_cons pe_str (pa_cons (pv 1) pa_nil))))) pss_nil)))
      (C8.pss_cut (ps_for PassesOwn.never rfl (pi_range1 rfl T.b_range (pa_cons (pe_glob (v := .int (6)) rfl T.g_INS ⟨_, rfl⟩) pa_nil)) (pg_name (i := 1) sc_first_free_assign.nd rfl (Or.inl rfl)) (pss_one (ps_if (pt_cmpR (op_notInD (My.u65 hr)) (pe_tup (pa_cons pe_str (pa_cons (pv 1) pa_nil))) (pv 0) rfl) (pss_one (ps_ret (pe_tup (pa_cons pe_str (pa_cons (pv 1) pa_nil))))) pss_nil)))
      (C8.pss_cut (ps_set (i := 2) sc_first_free_assign.nd rfl (Or.inl rfl) pe_int)
      (C8.pss_cut (ps_while PassesOwn.never (pt_cmpR (op_inD (My.u65 hr)) (pe_tup (pa_cons pe_str (pa_cons (pv 2) pa_nil))) (pv 0) rfl) (pss_one (ps_aug (i := 2) sc_first_free_assign.nd rfl (Or.inl rfl) pe_int ip_add)))
      (pss_one (ps_ret (pe_tup (pa_cons pe_str (pa_cons (pv 2) pa_nil))))))))), ?_⟩
    refine ⟨fun σ H' => Same H H' ∧ (∀ j, j < 8 → plN j ∈ ps) ∧ ∃ o1 o2, σ = [some (.ref L), o1, o2], ?_, ?_⟩
    · refine ⟨_, rfl, (by decide), (by decide), ?_⟩
      refine for_range (lo := 0) (n := (8 : Int).toNat) (fun i σ H' => Same H H' ∧ (∀ j, j < i → plN j ∈ ps) ∧ ∃ o1 o2, σ = [some (.ref L), o1, o2]) ⟨Same.refl _, fun j h => absurd h (by omega), _, _, rfl⟩ ?_ ?_
      · rintro i σ H1 hi ⟨ss, hj, o1, o2, rfl⟩
        have hi8 : i < 8 := hi
        rw [show (0 : Int) + (i : Int) = (i : Int) from Int.zero_add _]
        have ei : plD (plN i) = .tuple [.str "local", .int (i : Int)] := by unfold plN; rw [if_pos hi8]; rfl
        refine ⟨_, rfl, (by show 2 ≤ sizeLine; decide), fun t nt => ?_⟩
        have s1 := sN ss nt (o := .tup [.str "local", .int (i : Int)])
        refine ⟨_, rfl, plD (plN i), _, (pl_tup ei (SqT.of upd_same)).dp, hD s1, pl_shaped _, pls_shaped _, ?_⟩
        rw [pl_any]
        refine ⟨_, rfl, ite3 (fun e => ?_) (fun e => ?_)⟩
        · have ni : plN i ∉ ps := by simpa using e
          refine ⟨_, rfl, (by show 2 ≤ sizeLine; decide), fun t2 nt2 => ?_⟩
          exact q i _ _ ⟨ni, hj⟩ (pl_tup ei (SqT.of upd_same)) (sN s1 nt2)
        · have ni : plN i ∈ ps := by simpa using e
          exact ⟨s1, fun j h => by
            by_cases z : j = i
            · exact z ▸ ni
            · exact hj j (by omega), _, _, rfl⟩
      · rintro σ H1 ⟨ss, hj, o1, o2, rfl⟩
        exact ⟨ss, hj, _, _, rfl⟩
    rintro σ H1 ⟨ss, hj8, o1, o2, rfl⟩
    refine ⟨fun σ H' => Same H H' ∧ (∀ j, j < 14 → plN j ∈ ps) ∧ ∃ o1 o2, σ = [some (.ref L), o1, o2], ?_, ?_⟩
    · refine ⟨_, rfl, (by decide), (by decide), ?_⟩
      refine for_range (lo := 0) (n := (6 : Int).toNat) (fun i σ H' => Same H H' ∧ (∀ j, j < 8 + i → plN j ∈ ps) ∧ ∃ o1 o2, σ = [some (.ref L), o1, o2]) ⟨ss, fun j h => hj8 j (by omega), _, _, rfl⟩ ?_ ?_
      · clear ss
        rintro i σ H1 hi ⟨ss, hj, o1, o2, rfl⟩
        have hi6 : i < 6 := hi
        rw [show (0 : Int) + (i : Int) = (i : Int) from Int.zero_add _]
        have ei : plD (plN (8 + i)) = .tuple [.str "in", .int (i : Int)] := by unfold plN; rw [if_neg (by omega), if_pos (by omega), show 8 + i - 8 = i by omega]; rfl
        refine ⟨_, rfl, (by show 2 ≤ sizeLine; decide), fun t nt => ?_⟩
        have s1 := sN ss nt (o := .tup [.str "in", .int (i : Int)])
        refine ⟨_, rfl, plD (plN (8 + i)), _, (pl_tup ei (SqT.of upd_same)).dp, hD s1, pl_shaped _, pls_shaped _, ?_⟩
        rw [pl_any]
        refine ⟨_, rfl, ite3 (fun e => ?_) (fun e => ?_)⟩
        · have ni : plN (8 + i) ∉ ps := by simpa using e
          refine ⟨_, rfl, (by show 2 ≤ sizeLine; decide), fun t2 nt2 => ?_⟩
          exact q (8 + i) _ _ ⟨ni, hj⟩ (pl_tup ei (SqT.of upd_same)) (sN s1 nt2)
        · have ni : plN (8 + i) ∈ ps := by simpa using e
          exact ⟨s1, fun j h => by
            by_cases z : j = 8 + i
            · exact z ▸ ni
            · exact hj j (by omega), _, _, rfl⟩
      · clear ss
        rintro σ H1 ⟨ss, hj, o1, o2, rfl⟩
        exact ⟨ss, hj, _, _, rfl⟩
    clear ss hj8 o1 o2
    rintro σ H1 ⟨ss, hj14, o1, o2, rfl⟩
    refine ⟨fun σ H' => H' = H1 ∧ σ = [some (.ref L), o1, some (.int 0)], ⟨rfl, rfl⟩, ?_⟩
    rintro σ H2 ⟨rfl, rfl⟩
    refine ⟨fun σ H' => Same H H' ∧ ∃ n : Nat, ffI ps (14 + n) ∧ σ = [some (.ref L), o1, some (.int (n : Int))], ?_, ?_⟩
    · refine ⟨fun m σ H' => Same H H' ∧ ∃ n : Nat, m = ps.length - n ∧ (∀ j, j < 14 + n → plN j ∈ ps) ∧ σ = [some (.ref L), o1, some (.int (n : Int))], ⟨_, ss, 0, rfl, fun j h => hj14 j (by omega), rfl⟩, ?_⟩
      clear ss
      rintro m σ H3 ⟨ss, n, rfl, hj, rfl⟩
      have hle := ffI_le hj
      have ei : plD (plN (14 + n)) = .tuple [.str "slot", .int (n : Int)] := by unfold plN; rw [if_neg (by omega), if_neg (by omega), show 14 + n - 14 = n by omega]; rfl
      refine ⟨_, rfl, (by show 2 ≤ sizeLine; decide), fun t nt => ?_⟩
      have s1 := sN ss nt (o := .tup [.str "slot", .int (n : Int)])
      refine ⟨_, rfl, plD (plN (14 + n)), _, (pl_tup ei (SqT.of upd_same)).dp, hD s1, pl_shaped _, pls_shaped _, ?_⟩
      rw [pl_any]
      refine ⟨_, rfl, ite3 (fun e => ?_) (fun e => ?_)⟩
      · have ni : plN (14 + n) ∈ ps := by simpa using e
        have hj' : ∀ j, j < 14 + (n + 1) → plN j ∈ ps := fun j h => by
          by_cases z : j = 14 + n
          · exact z ▸ ni
          · exact hj j (by omega)
        have hle' := ffI_le hj'
        exact ⟨_, fun _ _ h => h, _, rfl, _, _, rfl, rfl, ps.length - (n + 1), by omega, s1, n + 1, rfl, hj', by rw [show (((n + 1 : Nat)) : Int) = (n : Int) + 1 by omega]; rfl⟩
      · have ni : plN (14 + n) ∉ ps := by simpa using e
        exact ⟨s1, n, ⟨ni, hj⟩, rfl⟩
    clear ss
    rintro σ H3 ⟨ss, n, hf, rfl⟩
    have ei : plD (plN (14 + n)) = .tuple [.str "slot", .int (n : Int)] := by unfold plN; rw [if_neg (by omega), if_neg (by omega), show 14 + n - 14 = n by omega]; rfl
    refine ⟨_, rfl, (by show 2 ≤ sizeLine; decide), fun t2 nt2 => ?_⟩
    exact q (14 + n) _ _ hf (pl_tup ei (SqT.of upd_same)) (sN ss nt2)
end

/-! ### what is read, which arguments are live -/
def usedB (xs : List In) (k : Nat) : Bool := xs.any fun x => decide ((k : Int) ∈ x.rdI)
theorem un_ar (v0 v1 v2 v3 v4 v5 v6 : V) : (unF v0 v1 v2 v3 v4 v5 v6).lookup ("arguments" : Str) = some v1 := by
  unfold unF
  rw [lookup_putF, if_neg (by decide +kernel), lookup_putF, if_neg (by decide +kernel), lookup_putF, if_neg (by decide +kernel), lookup_putF, if_neg (by decide +kernel), lookup_putF, if_neg (by decide +kernel), lookup_putF, if_pos rfl]
def spUsed (K : PySem.W.Frag) (C : Addr) : Sp := fun vs H Q _ => ∃ (p : Addr) (g : Int) (xs : List In) (rs : List (List Int)), vs = [.ref p] ∧ UnP K C H p g xs rs ∧
  ∀ (L : Addr) (c : List Bool) (H' : Hp), H L = none → H' L = some (.lst (c.map V.bl)) → c.length = g.toNat → (∀ k, k < g.toNat → c.getD k false = usedB xs k) → Same H H' → Q (.ref L) H'
def arI (p : Addr) (C : Addr) (H : Hp) (ar : Int) : Prop := ∃ (dx : Addr) (v0 v2 v3 v4 : V) (ca ra : Addr), H p = some (.ins C dx (unF v0 (.int ar) v2 v3 v4 (.ref ca) (.ref ra)))
def spLArg (K : PySem.W.Frag) (C : Addr) : Sp := fun vs H Q _ => ∃ (p : Addr) (g : Int) (xs : List In) (rs : List (List Int)) (ar : Int), vs = [.ref p] ∧ UnP K C H p g xs rs ∧ arI p C H ar ∧
  ∀ (u : V) (ms : List Nat) (H' : Hp), DT K H' u (.tuple ((((nuOf (ms.getD 0 0)).filter fun (k : Nat) => decide ((k : Int) < ar)).map Int.ofNat).map .int)) → Liv xs rs ms → Same H H' → Q u H'
theorem getD_setB {c : List Bool} {i k : Nat} {v : Bool} (h : i < c.length) : (c.set i v).getD k false = if k = i then v else c.getD k false := by
  rw [List.getD_eq_getElem?_getD, List.getElem?_set]
  by_cases e : i = k
  · subst e
    rw [if_pos rfl, if_pos h, if_pos rfl]; rfl
  · rw [if_neg e, if_neg (Ne.symm e), List.getD_eq_getElem?_getD]
section
variable {P : Program} {w : World} {K : PySem.W.Frag} {mg : Str → Option Value} {base : Heap} {a : Ad}
theorem ok_registers_read (T : Txt K mg a) : FnOk P w K mg base CX0 3 a.f_registers_read a.d_registers_read ["unit"] (spUsed K a.C_Unit) := by
  have G_reads : FnOk P w K mg base CX0 2 _ _ _ _ := ok_reads T
  refine T.F_registers_read.ok sc_registers_read (fun vs H Q E h => ?_) (fun cdv A outer s H vs Q E hr h => ?_)
  · obtain ⟨_, _, _, _, rfl, _⟩ := h; rfl
  · obtain ⟨p, g, xs, rs, rfl, U, q⟩ := h
    have hz := sizeLine_eq
    have g9 := U.k.g9
    have g3 := U.k.g3
    obtain ⟨dx, v0, w1, w2, w4, ca, ra, us, ws, hp, hca, hcs, hra, hws⟩ := U.o
    refine ⟨_, (pss_cons (ps_set (i := 1) sc_registers_read.nd rfl (Or.inl rfl) (pe_op op_rep (pe_lst (pa_cons pe_bl pa_nil)) (pe_fld (pv 0) rfl)))
      (pss_cons (ps_for PassesOwn.never rfl (pi_tup (pe_fld (pv 0) rfl)) (pg_name (i := 2) sc_registers_read.nd rfl (Or.inl rfl)) (pss_one (ps_for PassesOwn.never rfl (pi_tup (pe_call G_reads (hr.mono (by decide)) rfl T.g_reads T.k_reads T.bd_reads .nil pass0 (pa_cons (pv 2) pa_nil))) (pg_name (i := 3) sc_registers_read.nd rfl (Or.inl rfl)) (pss_one (ps_asg pe_bl (pg_sub (pv 1) (pv 3) set_list))))))
      (pss_one (ps_ret (pv 1))))), ?_⟩
    refine ⟨(by show 1 ≤ sizeLine; decide), fun l1 m1 => ⟨_, rfl, p, a.C_Unit, dx, _, _, rfl, (sN (Same.refl H) m1) _ _ hp, T.cl_Unit, T.n_Unit_registers, un_rs _ _ _ _ _ _ _, _, _, _, rfl, rfl, upd_same, by omega, by omega, (by simp; omega), fun N nN => ?_⟩⟩
    have s1 := sN (Same.refl H) m1 (o := .lst [V.bl false])
    have nN0 := none_of s1 nN
    have s2 := sN s1 nN (o := .lst ((List.replicate g.toNat [V.bl false]).flatten))
    refine ⟨_, rfl, p, a.C_Unit, dx, _, _, rfl, s2 _ _ hp, T.cl_Unit, T.n_Unit_code, un_cd _ _ _ _ _ _ _, ca, rfl, ⟨_, seqT s2 hca⟩, ?_⟩
    refine for_tup (K := K) (a := ca) (xs := us) (fun i σ H' => ∃ (c : List Bool) (o2 o3 : Option V), σ = [some (.ref p), some (.ref N), o2, o3] ∧ H' N = some (.lst (c.map V.bl)) ∧ c.length = g.toNat ∧ (∀ k, k < g.toNat → c.getD k false = (xs.take i).any fun x => decide ((k : Int) ∈ x.rdI)) ∧ Same H H') ⟨List.replicate g.toNat false, _, _, rfl, by rw [upd_same, rep_bl], by simp, fun k hk => by simp [hk], s2⟩ (fun i σ H' _ ⟨_, _, _, _, _, _, _, ss⟩ => seqT ss hca) ?_ ?_
    · clear s1 s2 nN
      rintro i y σ H1 hy ⟨c, o2, o3, rfl, hN, lc', hc, ss⟩
      obtain ⟨d, ed, dy⟩ := hcs.at hy
      rw [List.getElem?_map] at ed
      obtain ⟨x, ex, rfl⟩ := Option.map_eq_some_iff.mp ed
      have Ix := U.k.x i x ex
      have hdl := ds_len x
      have hol := Ix.l
      refine ⟨_, rfl, y, x.nm, x.ds, x.ops, rfl, dy.keep (KT.same ss), x.opsOk, by omega, by omega, fun u H2 du s3 => ?_⟩
      rw [rdOf_eq] at du
      obtain ⟨pa, zs, rfl, hzs, hd⟩ := du.ts
      obtain rfl := hd.ints
      have hN2 := s3 _ _ hN
      refine ⟨pa, rfl, ⟨_, hzs⟩, ?_⟩
      refine for_tup (K := K) (a := pa) (xs := x.rdI.map V.int) (fun j σ H' => ∃ (c' : List Bool) (o3 : Option V), σ = [some (.ref p), some (.ref N), some y, o3] ∧ H' N = some (.lst (c'.map V.bl)) ∧ c'.length = g.toNat ∧ (∀ k, k < g.toNat → c'.getD k false = (c.getD k false || decide ((k : Int) ∈ x.rdI.take j))) ∧ Same H H' ∧ KT K H2 H') ⟨c, _, rfl, hN2, lc', fun k hk => by simp, sTr ss s3, fun _ _ h => h⟩ (fun j σ H' _ ⟨_, _, _, _, _, _, _, kk⟩ => kk _ _ hzs) ?_ ?_
      · rintro j z σ H3 hz3 ⟨c', o3, rfl, hN3, lc3, hc3, ss3, kk⟩
        rw [List.getElem?_map] at hz3
        obtain ⟨d, ed, rfl⟩ := Option.map_eq_some_iff.mp hz3
        obtain ⟨d0, d1⟩ := U.k.wel.r i x ex d (List.mem_of_getElem? ed)
        obtain ⟨n, rfl⟩ := Int.eq_ofNat_of_zero_le d0
        have hn : n < c'.length := by omega
        refine ⟨_, rfl, _, rfl, _, _, _, _, rfl, rfl, hN3, ixN_nat (by rw [List.length_map]; exact hn), ?_⟩
        refine ⟨c'.set n true, _, rfl, by rw [upd_same, List.map_set], by rw [List.length_set]; exact lc3, fun k hk => ?_, sUpd ss3 nN0, kk.tr (KT.put hN3)⟩
        rw [getD_setB hn, hc3 k hk, List.take_succ, ed]
        by_cases e : k = n
        · subst e
          simp
        · rw [if_neg e]
          congr 1
          refine decide_eq_decide.mpr ?_
          rw [List.mem_append]
          exact ⟨.inl, fun h => h.elim id fun h => absurd (List.mem_singleton.mp h) (by omega)⟩
      · rintro σ H3 ⟨c', o3, rfl, hN3, lc3, hc3, ss3, kk⟩
        refine ⟨c', _, _, rfl, hN3, lc3, fun k hk => ?_, ss3⟩
        rw [hc3 k hk, hc k hk, List.length_map, List.take_length, List.take_succ, ex, List.any_append]
        simp
    · rintro σ H1 ⟨c, o2, o3, rfl, hN, lc', hc, ss⟩
      rw [show us.length = xs.length by rw [hcs.len]; simp, List.take_length] at hc
      exact ⟨_, rfl, q N c H1 nN0 hN lc' hc ss⟩
theorem ok_live_arguments (T : Txt K mg a) : FnOk P w K mg base CX0 5 a.f_live_arguments a.d_live_arguments ["unit"] (spLArg K a.C_Unit) := by
  have G_live_masks : FnOk P w K mg base CX0 4 _ _ _ _ := ok_live_masks T
  have G_numbers_of : FnOk P w K mg base CX0 1 _ _ _ _ := ok_numbers_of T
  refine T.F_live_arguments.ok sc_live_arguments (fun vs H Q E h => ?_) (fun cdv A outer s H vs Q E hr h => ?_)
  · obtain ⟨_, _, _, _, _, rfl, _⟩ := h; rfl
  · obtain ⟨p, g, xs, rs, ar, rfl, U, ha, q⟩ := h
    have hz := sizeLine_eq
    have g9 := U.k.g9
    have g3 := U.k.g3
    have n4 := U.k.n4
    obtain ⟨dx, v0, w1, w2, w4, ca, ra, us, ws, hp, hca, hcs, hra, hws⟩ := U.o
    refine ⟨_, (pss_one (ps_ret (pe_callTy call_tuple_of (by rfl) T.b_tuple (by decide +kernel) (pa_cons (pe_lc (own := [("number", 1)]) (g := gName 1) rfl sc_live_arguments.nd (pi_tup (pe_call G_numbers_of (hr.mono (by decide)) rfl T.g_numbers_of T.k_numbers_of T.bd_numbers_of .nil pass0 (pa_cons (pe_ix ix_list (pe_call G_live_masks (hr.mono (by decide)) rfl T.g_live_masks T.k_live_masks T.bd_live_masks .nil pass0 (pa_cons (pv 0) pa_nil)) pe_int (fun _ _ => rfl)) pa_nil))) (blkOk_by (own := [("number", 1)]) (N := ["unit", "number"]) (sc := defScope s_live_arguments) (by decide +kernel)) (fun _ _ _ _ _ => pg_name (i := 1) sc_live_arguments.nd rfl (Or.inl rfl)) (fun _ _ _ _ _ => (pts_one (pt_cmpR op_lt (pv 1) (pe_fldK (K := K) rfl (pv 0) rfl) (nomark _)))) (fun _ _ _ _ _ => (pv 1))) pa_nil)))), ?_⟩
    refine ⟨_, rfl, p, dx, _, _, _, _, _, ca, ra, us, ws, g, xs, rs, rfl, hp, hca, hcs, hra, hws, U.k, fun N ms H1 nN hN lv s1 => ?_⟩
    have hml := lv.len
    have e0 : (bV ms)[0]? = some (V.int ((ms.getD 0 0 : Nat) : Int)) := bV_at (by omega)
    have hbt : ∀ k, (ms.getD 0 0).testBit k = true → k < g.toNat := fun k h => lv.lt U.k.wel (by omega) h
    refine ⟨_, _, _, _, rfl, rfl, SqL.of hN, atI_nat (j := 0) e0, ms.getD 0 0, rfl, Nat.le_trans (bits_le hbt) (by omega), fun u H2 du s2 => ?_⟩
    obtain ⟨pa, zs, rfl, hzs, hd⟩ := du.ts
    obtain rfl := hd.ints
    have s12 := sTr s1 s2
    refine ⟨pa, rfl, ⟨_, hzs⟩, fun D nD => ?_⟩
    refine lc_tup (K := K) (a := pa) (xs := ((nuOf (ms.getD 0 0)).map Int.ofNat).map V.int) (fun i H' => Same H2 H' ∧ H' D = some (.lst (((((nuOf (ms.getD 0 0)).take i).filter fun (k : Nat) => decide ((k : Int) < ar)).map Int.ofNat).map V.int))) ⟨sN (Same.refl H2) nD, upd_same⟩ (fun i H' _ h => seqT h.1 hzs) ?_ ?_
    · rintro i x H3 hx ⟨s3, hD⟩
      rw [List.map_map, List.getElem?_map] at hx
      obtain ⟨k, ek, rfl⟩ := Option.map_eq_some_iff.mp hx
      obtain ⟨dx', v0', v2', v3', v4', ca', ra', hp'⟩ := ha
      have s13 := sTr s12 s3
      refine ⟨rfl, _, rfl, _, rfl, p, a.C_Unit, dx', _, _, rfl, s13 _ _ hp', T.cl_Unit, T.n_Unit_arguments, un_ar _ _ _ _ _ _ _, _, _, rfl, rfl, _, rfl, ?_⟩
      have hnu : (nuOf (ms.getD 0 0)).length ≤ 1000 := by
        unfold nuOf
        have h2 : Builtin.Int.intBits ((ms.getD 0 0 : Nat) : Int) ≤ 1000 := Nat.le_trans (bits_le hbt) (by omega)
        exact Nat.le_trans (List.length_filter_le _ _) (by rw [List.length_range]; omega)
      have hlf : (((nuOf (ms.getD 0 0)).take i).filter fun (k : Nat) => decide ((k : Int) < ar)).length ≤ 1000 := Nat.le_trans (List.length_filter_le _ _) (by rw [List.length_take]; omega)
      rw [List.take_succ, ek, List.filter_append]
      refine ite3 (fun e => ?_) (fun e => ?_)
      · refine ⟨_, rfl, _, hD, by rw [List.length_map, List.length_map]; omega, sUpd s3 nD, ?_⟩
        rw [upd_same]
        have e' : decide ((k : Int) < ar) = true := e
        simp [e']
      · refine ⟨s3, ?_⟩
        have e' : decide ((k : Int) < ar) = false := e
        rw [hD]
        simp [e']
    · rintro H3 ⟨s3, hD⟩
      refine ⟨D, _, rfl, .inl ⟨SqL.of hD, fun t nt => ?_⟩⟩
      rw [List.length_map, List.length_map, List.take_length]
      refine q _ ms _ (.tup (SqT.of upd_same) (dts_ints _)) lv (sN (sTr s12 s3) nt)
end

/-! ### assign -/
theorem if_iff {α : Type} {p q : Prop} [Decidable p] [Decidable q] {x y : α} (h : p ↔ q) : (if p then x else y) = if q then x else y := by
  by_cases e : p
  · rw [if_pos e, if_pos (h.mp e)]
  · rw [if_neg e, if_neg fun z => e (h.mpr z)]
def ffN (ps : List Pl) : Nat := ((List.range (ps.length + 1)).find? fun i => !decide (plN i ∈ ps)).getD 0
theorem ffN_eq {ps : List Pl} {i : Nat} (h : ffI ps i) : ffN ps = i := by
  have hl := ffI_le h.2
  have e : (List.range (ps.length + 1)).find? (fun i => !decide (plN i ∈ ps)) = some i := by
    rw [List.find?_range_eq_some]
    exact ⟨by simp [h.1], by simp; omega, fun j hj => by simp [h.2 j hj]⟩
  unfold ffN
  rw [e]; rfl
def rowP (fs : List Nat) (ps : List Pl) (k : Nat) : List Pl := (nuOf (fs.getD k 0)).map fun j => ps.getD j .no
def asF (fs : List Nat) (used : Nat → Bool) (ps0 : List Pl) : Nat → List Pl
  | 0 => ps0
  | k + 1 => if used k = true ∧ (asF fs used ps0 k).getD k .no = .no then (asF fs used ps0 k).set k (plN (ffN (rowP fs (asF fs used ps0 k) k))) else asF fs used ps0 k
theorem asF_len (fs : List Nat) (used : Nat → Bool) (ps0 : List Pl) : ∀ k, (asF fs used ps0 k).length = ps0.length
  | 0 => rfl
  | k + 1 => by
    unfold asF
    split
    · rw [List.length_set, asF_len fs used ps0 k]
    · exact asF_len fs used ps0 k
def in0 (g : Nat) (ar : Int) (m : Nat) : List Pl := (List.range g).map fun (k : Nat) => if m.testBit k = true ∧ (k : Int) < ar then .inn k else .no
theorem in0_len (g : Nat) (ar : Int) (m : Nat) : (in0 g ar m).length = g := by simp [in0]
theorem DTs.set {K : PySem.W.Frag} {H : Hp} : ∀ {vs : List V} {ds : List PyData} {i : Nat} {v : V} {d : PyData}, DTs K H vs ds → DT K H v d → DTs K H (vs.set i v) (ds.set i d)
  | _, _, _, _, _, .nil, _ => .nil
  | _, _, 0, _, _, .cons _ r, h => .cons h r
  | _, _, i + 1, _, _, .cons k r, h => .cons k (r.set h)
theorem nu_len {m g : Nat} (h : ∀ j, m.testBit j = true → j < g) : (nuOf m).length ≤ g := by
  have h2 : Builtin.Int.intBits (m : Int) ≤ g := bits_le h
  unfold nuOf
  exact Nat.le_trans (List.length_filter_le _ _) (by rw [List.length_range]; exact h2)
theorem pls_at {ps : List Pl} {k : Nat} (h : k < ps.length) : (ps.map plD)[k]? = some (plD (ps.getD k .no)) := by
  rw [List.getElem?_map, List.getD_eq_getElem?_getD, List.getElem?_eq_getElem h] <;> rfl
theorem DT.plno {K : PySem.W.Frag} {H : Hp} {v : V} {q : Pl} (h : DT K H v (plD q)) : decide (v = V.non) = decide (q = .no) := by
  cases q with
  | no => cases h; simp
  | lo n => obtain ⟨b, _, rfl, _⟩ := DT.ts h; simp
  | inn n => obtain ⟨b, _, rfl, _⟩ := DT.ts h; simp
  | sl n => obtain ⟨b, _, rfl, _⟩ := DT.ts h; simp
def spAssign (K : PySem.W.Frag) (C : Addr) : Sp := fun vs H Q _ => ∃ (p : Addr) (g : Int) (xs : List In) (rs : List (List Int)) (ar : Int), vs = [.ref p] ∧ UnP K C H p g xs rs ∧ arI p C H ar ∧
  ∀ (u : V) (fs ms : List Nat) (H' : Hp), DT K H' u (.tuple ((asF fs (usedB xs) (in0 g.toNat ar (ms.getD 0 0)) g.toNat).map plD)) → Liv xs rs ms → fs.length = g.toNat → (∀ i j, i < g.toNat → gb fs i j = true → j < g.toNat) → (∀ i j, i < g.toNat → (gb fs i j = true ↔ i ≠ j ∧ (raw xs rs ms i j ∨ raw xs rs ms j i))) → Same H H' → Q u H'
section
variable {P : Program} {w : World} {K : PySem.W.Frag} {mg : Str → Option Value} {base : Heap} {a : Ad}
theorem ok_assign (T : Txt K mg a) : FnOk P w K mg base CX0 6 a.f_assign a.d_assign ["unit"] (spAssign K a.C_Unit) := by
  have G_registers_read : FnOk P w K mg base CX0 3 _ _ _ _ := ok_registers_read T
  have G_conflicts : FnOk P w K mg base CX0 5 _ _ _ _ := ok_conflicts T
  have G_live_arguments : FnOk P w K mg base CX0 5 _ _ _ _ := ok_live_arguments T
  have G_first_free_assign : FnOk P w K mg base CX0 1 _ _ _ _ := ok_first_free_assign T
  refine T.F_assign.ok sc_assign (fun vs H Q E h => ?_) (fun cdv A outer s H vs Q E hr h => ?_)
  · obtain ⟨_, _, _, _, _, rfl, _⟩ := h; rfl
  · obtain ⟨p, g, xs, rs, ar, rfl, U, ha, q⟩ := h
    have hz := sizeLine_eq
    have g9 := U.k.g9
    have g3 := U.k.g3
    have n4 := U.k.n4
    obtain ⟨dx, v0, w1, w2, w4, ca, ra, us, ws, hp, hca, hcs, hra, hws⟩ := U.o
    refine ⟨_, (pss_cons (ps_set (i := 1) sc_assign.nd rfl (Or.inl rfl) (pe_call G_registers_read (hr.mono (by decide)) rfl T.g_registers_read T.k_registers_read T.bd_registers_read .nil pass0 (pa_cons (pv 0) pa_nil)))
      (pss_cons (ps_set (i := 2) sc_assign.nd rfl (Or.inl rfl) (pe_call G_conflicts (hr.mono (by decide)) rfl T.g_conflicts T.k_conflicts T.bd_conflicts .nil pass0 (pa_cons (pv 0) pa_nil)))
      (pss_cons (ps_set (i := 3) sc_assign.nd rfl (Or.inr rfl) (pe_op op_rep (pe_lst (pa_cons pe_non pa_nil)) (pe_fld (pv 0) rfl)))
      (C8.pss_cut (ps_for PassesOwn.never rfl (pi_tup (pe_call G_live_arguments (hr.mono (by decide)) rfl T.g_live_arguments T.k_live_arguments T.bd_live_arguments .nil pass0 (pa_cons (pv 0) pa_nil))) (pg_name (i := 4) sc_assign.nd rfl (Or.inl rfl)) (pss_one (ps_asg (pe_tup (pa_cons pe_str (pa_cons (pv 4) pa_nil))) (pg_sub (pv 3) (pv 4) set_list))))
      (C8.pss_cut (ps_for PassesOwn.never rfl (pi_range1 rfl T.b_range (pa_cons (pe_fld (pv 0) rfl) pa_nil)) (pg_name (i := 4) sc_assign.nd rfl (Or.inl rfl)) (pss_one (ps_if (PW.pt (pw_and (pt_val (pe_ix ix_list (pv 1) (pv 4) (fun _ _ => rfl))) (pw_and1 (pt_cmpR op_isN (pe_ix ix_list (pv 3) (pv 4) (fun _ _ => rfl)) pe_non (nomark _))))) (pss_one (ps_asg (pe_call G_first_free_assign (hr.mono (by decide)) rfl T.g_first_free_assign T.k_first_free_assign T.bd_first_free_assign .nil pass0 (pa_cons (pe_lc (own := [("other", 5)]) (g := gName 5) rfl sc_assign.nd (pi_tup (pe_ix ix_tup (pv 2) (pv 4) (fun _ _ => rfl))) (blkOk_by (own := [("other", 5)]) (N := ["unit", "used", "in_conflict", "assignment", "number", "other"]) (sc := defScope s_assign) (by decide +kernel)) (fun _ _ _ _ _ => pg_name (i := 5) sc_assign.nd rfl (Or.inl rfl)) (fun _ _ _ _ _ => pts_nil) (fun _ _ _ _ _ => (pe_ix (ix_listK (K := K) rfl) (pv 3) (pv 5) (fun _ _ => rfl)))) pa_nil)) (pg_sub (pv 3) (pv 4) set_list))) pss_nil)))
      (pss_one (ps_ret (pe_callTy call_tuple_of (by rfl) T.b_tuple (by decide +kernel) (pa_cons (pv 3) pa_nil))))))))), ?_⟩
    refine ⟨_, rfl, p, g, xs, rs, rfl, U, fun L c H1 nL hL lc' hc s1 => ?_⟩
    refine ⟨_, rfl, p, g, xs, rs, rfl, U.same s1, fun cu fs ms H2 dc lv lf hbd hg s2 => ?_⟩
    have s12 := sTr s1 s2
    refine ⟨(by show 1 ≤ sizeLine; decide), fun l1 m1 => ⟨_, rfl, p, a.C_Unit, dx, _, _, rfl, (sN s12 m1) _ _ hp, T.cl_Unit, T.n_Unit_registers, un_rs _ _ _ _ _ _ _, _, _, _, rfl, rfl, upd_same, by omega, by omega, (by simp; omega), fun N nN => ?_⟩⟩
    have sA := sN (Same.refl H2) m1 (o := .lst [V.non])
    have nN2 := none_of sA nN
    have sB := sN sA nN (o := .lst ((List.replicate g.toNat [V.non]).flatten))
    have hbt : ∀ k, (ms.getD 0 0).testBit k = true → k < g.toNat := fun k h => lv.lt U.k.wel (by omega) h
    have rep_non : ∀ n, (List.replicate n [V.non]).flatten = List.replicate n V.non := fun n => by
      induction n with
      | zero => rfl
      | succ n ih => rw [List.replicate_succ, List.flatten_cons, ih, List.replicate_succ]; rfl
    have rep_dt : ∀ (H' : Hp) n, DTs K H' (List.replicate n V.non) ((List.replicate n Pl.no).map plD) := fun H' n => by
      induction n with
      | zero => exact .nil
      | succ n ih => rw [List.replicate_succ, List.replicate_succ]; exact .cons .non ih
    refine ⟨fun σ H' => ∃ vs' o4 o5, σ = [some (.ref p), some (.ref L), some cu, some (.ref N), o4, o5] ∧ H' N = some (.lst vs') ∧ DTs K H' vs' ((in0 g.toNat ar (ms.getD 0 0)).map plD) ∧ Same H2 H', ?_, ?_⟩
    · have sC := sTr s12 sB
      refine ⟨_, rfl, p, g, xs, rs, ar, rfl, U.same sC, ?_, fun u ms' H4 du lv' s4 => ?_⟩
      · obtain ⟨dx', v0', v2', v3', v4', ca', ra', hp'⟩ := ha
        exact ⟨dx', v0', v2', v3', v4', ca', ra', sC _ _ hp'⟩
      obtain rfl := lv'.uniq lv
      obtain ⟨pa, zs, rfl, hzs, hd⟩ := du.ts
      obtain rfl := hd.ints
      have sD := sTr sB s4
      have hN4 := s4 _ _ (show upd (upd H2 l1 (.lst [V.non])) N (.lst ((List.replicate g.toNat [V.non]).flatten)) N = _ from upd_same)
      generalize hns : (nuOf (ms'.getD 0 0)).filter (fun (k : Nat) => decide ((k : Int) < ar)) = ns at hzs hd
      have hmem : ∀ k, k ∈ ns ↔ (ms'.getD 0 0).testBit k = true ∧ (k : Int) < ar := fun k => by
        rw [← hns, List.mem_filter, mem_nu, decide_eq_true_eq]
      refine ⟨pa, rfl, ⟨_, hzs⟩, ?_⟩
      refine for_tup (K := K) (a := pa) (xs := (ns.map Int.ofNat).map V.int) (fun i σ H' => ∃ vs' o4 o5, σ = [some (.ref p), some (.ref L), some cu, some (.ref N), o4, o5] ∧ H' N = some (.lst vs') ∧ vs'.length = g.toNat ∧ DTs K H' vs' (((List.range g.toNat).map fun (k : Nat) => if k ∈ ns.take i then Pl.inn k else .no).map plD) ∧ Same H2 H' ∧ KT K H4 H') ⟨_, _, _, rfl, by rw [hN4, rep_non], by simp, ?_, sD, fun _ _ h => h⟩ (fun i σ H' _ ⟨_, _, _, _, _, _, _, _, kk⟩ => kk _ _ hzs) ?_ ?_
      · have : ((List.range g.toNat).map fun (k : Nat) => if k ∈ ns.take 0 then Pl.inn k else .no) = List.replicate g.toNat Pl.no := by
          refine List.ext_getElem (by simp) fun i h1 h2 => by simp
        rw [this]
        exact rep_dt _ _
      · rintro i y σ H5 hy ⟨vs', o4, o5, rfl, hN5, lN, dN, s5, kk⟩
        rw [List.map_map, List.getElem?_map] at hy
        obtain ⟨k, ek, rfl⟩ := Option.map_eq_some_iff.mp hy
        have hk : k < g.toNat := hbt k ((hmem k).mp (List.mem_of_getElem? ek)).1
        refine ⟨_, rfl, (by show 2 ≤ sizeLine; decide), fun t nt => ?_⟩
        have s6 := sN (Same.refl H5) nt (o := .tup [.str "in", .int (k : Int)])
        have hN6 := s6 _ _ hN5
        refine ⟨_, rfl, _, rfl, _, _, _, _, rfl, rfl, hN6, ixN_nat (by rw [lN]; exact hk), ?_⟩
        refine ⟨_, _, _, rfl, upd_same, by rw [List.length_set]; exact lN, ?_, sUpd (sTr s5 s6) nN2, kk.tr ((KT.same s6).tr (KT.put hN6))⟩
        have d1 := ((dN.keep (KT.same s6)).set (i := k) (pl_tup (p := .inn k) rfl (SqT.of (K := K) upd_same))).keep (KT.put (o := .lst (vs'.set k (.ref t))) hN6)
        have e : (((List.range g.toNat).map fun (k : Nat) => if k ∈ ns.take i then Pl.inn k else .no).map plD).set k (plD (.inn k)) = ((List.range g.toNat).map fun (k : Nat) => if k ∈ ns.take (i + 1) then Pl.inn k else .no).map plD := by
          rw [← List.map_set]
          congr 1
          refine List.ext_getElem (by simp) fun j h1 h2 => ?_
          rw [List.getElem_set]
          simp only [List.getElem_map, List.getElem_range]
          by_cases e : k = j
          · subst e
            rw [if_pos rfl, if_pos (by rw [List.take_succ, ek]; simp)]
          · rw [if_neg e]
            refine if_iff ?_
            rw [List.take_succ, ek, List.mem_append]
            exact ⟨.inl, fun h => h.elim id fun h => absurd (List.mem_singleton.mp h) (Ne.symm e)⟩
        rw [← e]
        exact d1
      · rintro σ H5 ⟨vs', o4, o5, rfl, hN5, lN, dN, s5, kk⟩
        refine ⟨vs', _, _, rfl, hN5, ?_, s5⟩
        rw [List.length_map, List.length_map, List.take_length] at dN
        have e : ((List.range g.toNat).map fun (k : Nat) => if k ∈ ns then Pl.inn k else .no) = in0 g.toNat ar (ms'.getD 0 0) := by
          unfold in0
          refine List.map_congr_left fun k _ => if_iff (hmem k)
        rw [← e]
        exact dN
    clear sA sB nN m1
    rintro σ H3 ⟨vs', o4, o5, rfl, hN, dN, s3⟩
    have hA : ∀ {H' : Hp}, Same H2 H' → H' p = some (.ins a.C_Unit dx (unF v0 w1 w2 (.int g) w4 (.ref ca) (.ref ra))) := fun s => s _ _ (s12 _ _ hp)
    refine ⟨fun σ H' => ∃ vs' o4 o5, σ = [some (.ref p), some (.ref L), some cu, some (.ref N), o4, o5] ∧ H' N = some (.lst vs') ∧ DTs K H' vs' ((asF fs (usedB xs) (in0 g.toNat ar (ms.getD 0 0)) g.toNat).map plD) ∧ Same H2 H', ?_, ?_⟩
    · refine ⟨_, rfl, p, a.C_Unit, dx, _, _, rfl, hA s3, T.cl_Unit, T.n_Unit_registers, un_rs _ _ _ _ _ _ _, g, rfl, by omega, by omega, ?_⟩
      refine for_range (lo := 0) (n := g.toNat) (fun k σ H' => ∃ vs' o4 o5, σ = [some (.ref p), some (.ref L), some cu, some (.ref N), o4, o5] ∧ H' N = some (.lst vs') ∧ DTs K H' vs' ((asF fs (usedB xs) (in0 g.toNat ar (ms.getD 0 0)) k).map plD) ∧ Same H2 H') ⟨vs', _, _, rfl, hN, dN, s3⟩ ?_ ?_
      · clear hN dN s3 vs' o4 o5
        rintro k σ H4 hk ⟨vs', o4, o5, rfl, hN, dN, s4⟩
        rw [show (0 : Int) + (k : Int) = (k : Int) from Int.zero_add _]
        have lps : (asF fs (usedB xs) (in0 g.toNat ar (ms.getD 0 0)) k).length = g.toNat := by rw [asF_len, in0_len]
        have lN : vs'.length = g.toNat := by rw [dN.len, List.length_map, lps]
        generalize hps : asF fs (usedB xs) (in0 g.toNat ar (ms.getD 0 0)) k = ps at dN lps
        have hL4 := s4 _ _ (s2 _ _ hL)
        have ec : (c.map V.bl)[k]? = some (V.bl (usedB xs k)) := by
          rw [List.getElem?_map, ← hc k hk, List.getD_eq_getElem?_getD, List.getElem?_eq_getElem (by omega)]; rfl
        have stay : asF fs (usedB xs) (in0 g.toNat ar (ms.getD 0 0)) (k + 1) = if usedB xs k = true ∧ ps.getD k .no = .no then ps.set k (plN (ffN (rowP fs ps k))) else ps := by
          rw [← hps]; rfl
        rw [stay]
        refine ⟨_, rfl, _, rfl, _, _, _, _, rfl, rfl, SqL.of hL4, atI_nat ec, _, rfl, ite3 (fun eu => ?_) (fun eu => ?_)⟩
        rotate_left
        · rw [if_neg (by rw [eu]; simp)]
          exact ⟨vs', _, _, rfl, hN, dN, s4⟩
        obtain ⟨v, ev, dv⟩ := dN.get (pls_at (k := k) (by omega))
        refine ⟨_, rfl, _, rfl, _, _, _, _, rfl, rfl, SqL.of hN, atI_nat ev, rfl, _, rfl, ?_⟩
        rw [dv.plno]
        refine ite3 (fun en => ?_) (fun en => ?_)
        rotate_left
        · rw [if_neg fun z => of_decide_eq_false en z.2]
          exact ⟨vs', _, _, rfl, hN, dN, s4⟩
        rw [if_pos ⟨eu, of_decide_eq_true en⟩]
        obtain ⟨pc, zc, rfl, hzc, dzc⟩ := (dc.keep (KT.same s4)).ts
        obtain ⟨vr, er, dr⟩ := dzc.get (i := k) (d := nuD (fs.getD k 0)) (by rw [List.getElem?_map, List.getD_eq_getElem?_getD, List.getElem?_eq_getElem (by omega)]; rfl)
        obtain ⟨pr, zr, rfl, hzr, dzr⟩ := dr.ts
        obtain rfl := dzr.ints
        refine ⟨_, rfl, _, rfl, _, _, _, _, rfl, rfl, hzc, atI_nat er, pr, rfl, ⟨_, hzr⟩, fun D nD => ?_⟩
        have nuL : (nuOf (fs.getD k 0)).length ≤ g.toNat := by
          have := nu_len (m := fs.getD k 0) (g := g.toNat) fun j hj => hbd k j hk hj
          exact this
        refine lc_tup (K := K) (a := pr) (xs := ((nuOf (fs.getD k 0)).map Int.ofNat).map V.int) (fun i H' => Same H4 H' ∧ ∃ us', H' D = some (.lst us') ∧ us'.length = i ∧ DTs K H' us' ((((nuOf (fs.getD k 0)).take i).map fun j => ps.getD j Pl.no).map plD)) ⟨sN (Same.refl H4) nD, [], upd_same, rfl, .nil⟩ (fun i H' _ h => seqT h.1 hzr) ?_ ?_
        · rintro i x H5 hx ⟨s5, us', hD, lD, dD⟩
          rw [List.map_map, List.getElem?_map] at hx
          obtain ⟨j, ej, rfl⟩ := Option.map_eq_some_iff.mp hx
          have hi := (List.getElem?_eq_some_iff.mp ej).1
          have hj : j < g.toNat := hbd k j hk (mem_nu.mp (List.mem_of_getElem? ej))
          obtain ⟨v2, ev2, dv2⟩ := (dN.keep (KT.same s5)).get (pls_at (k := j) (by omega))
          refine ⟨rfl, _, rfl, _, rfl, _, _, _, _, rfl, rfl, SqL.of (s5 _ _ hN), atI_nat ev2, ?_⟩
          refine ⟨us', hD, by omega, sUpd s5 nD, us' ++ [v2], upd_same, by simp [lD], ?_⟩
          rw [List.take_succ, ej, List.map_append, List.map_append]
          exact (dD.app (.cons dv2 .nil)).keep (KT.put hD)
        · rintro H5 ⟨s5, us', hD, lD, dD⟩
          rw [List.length_map, List.length_map, List.take_length] at dD
          refine ⟨D, us', rowP fs ps k, rfl, hD, dD, by unfold rowP; rw [List.length_map]; omega, fun i u H6 hf du s6 => ?_⟩
          rw [ffN_eq hf]
          have hN6 := s6 _ _ (s5 _ _ hN)
          have s46 := sTr s5 s6
          refine ⟨_, rfl, _, rfl, _, _, _, _, rfl, rfl, hN6, ixN_nat (by omega), ?_⟩
          refine ⟨_, _, _, rfl, upd_same, ?_, sUpd (sTr s4 s46) nN2⟩
          rw [List.map_set]
          exact ((dN.keep (KT.same s46)).set du).keep (KT.put hN6)
      · rintro σ H4 ⟨vs', o4, o5, rfl, hN, dN, s4⟩
        exact ⟨vs', _, _, rfl, hN, dN, s4⟩
    · clear hN dN s3 vs' o4 o5
      rintro σ H4 ⟨vs', o4, o5, rfl, hN, dN, s4⟩
      refine ⟨_, rfl, _, _, rfl, .inl ⟨SqL.of hN, fun t nt => ?_⟩⟩
      exact q _ fs ms _ (.tup (SqT.of upd_same) (dN.keep (KT.new nt))) lv lf hbd hg (sN (sTr s12 s4) nt)
end

/-! ### the law's own first free place -/
def spLFF (K : PySem.W.Frag) : Sp := fun vs H Q _ => ∃ (L : Addr) (us : List V) (ps : List Pl), vs = [.ref L] ∧ H L = some (.lst us) ∧ DTs K H us (ps.map plD) ∧ ps.length ≤ 900 ∧
  ∀ (i : Nat) (u : V) (H' : Hp), ffI ps i → DT K H' u (plD (plN i)) → Same H H' → Q u H'
theorem plN_14 : ((List.range 8).map Pl.lo) ++ ((List.range 6).map Pl.inn) = (List.range 14).map plN := by decide
theorem plN_all (n : Nat) : (List.range 14).map plN ++ (List.range n).map Pl.sl = (List.range (14 + n)).map plN := by
  rw [List.range_add, List.map_append, List.map_map]
  congr 1
  refine List.map_congr_left fun k _ => ?_
  show Pl.sl k = plN (14 + k)
  unfold plN
  rw [if_neg (by omega), if_neg (by omega), show 14 + k - 14 = k by omega]
section
variable {P : Program} {w : World} {K : PySem.W.Frag} {mg : Str → Option Value} {base : Heap} {a : Ad}
theorem ok_law_first_free (T : Txt K mg a) : FnOk P w K mg base CX0 1 a.f_law_first_free a.d_law_first_free ["taken"] (spLFF K) := by
  refine T.F__law_first_free.ok sc_law_first_free (fun vs H Q E h => ?_) (fun cdv A outer s H vs Q E hr h => ?_)
  · obtain ⟨_, _, _, rfl, _⟩ := h; rfl
  · obtain ⟨L, us, ps, rfl, hL, hd, hl, q⟩ := h
    have hz := sizeLine_eq
    have lus : us.length = ps.length := by rw [hd.len, List.length_map]
    have hD : ∀ {H' : Hp}, Same H H' → Dp K H' (.ref L) (.list (ps.map plD)) := fun s => .lst (SqL.of (s _ _ hL)) (hd.keep (KT.same s)).dps
    refine ⟨_, (C8.pss_cut (ps_set (i := 1) sc_law_first_free.nd rfl (Or.inl rfl) (pe_op op_cat (pe_lc (own := [("k", 2)]) (g := gName 2) rfl sc_law_first_free.nd (pi_range1 rfl T.b_range (pa_cons pe_int pa_nil)) (blkOk_by (own := [("k", 2)]) (N := ["taken", "order", "k", "place"]) (sc := defScope s_law_first_free) (by decide +kernel)) (fun _ _ _ _ _ => pg_name (i := 2) sc_law_first_free.nd rfl (Or.inl rfl)) (fun _ _ _ _ _ => pts_nil) (fun _ _ _ _ _ => (pe_tup (pa_cons pe_str (pa_cons (pv 2) pa_nil))))) (pe_lc (own := [("k", 2)]) (g := gName 2) rfl sc_law_first_free.nd (pi_range1 rfl T.b_range (pa_cons pe_int pa_nil)) (blkOk_by (own := [("k", 2)]) (N := ["taken", "order", "k", "place"]) (sc := defScope s_law_first_free) (by decide +kernel)) (fun _ _ _ _ _ => pg_name (i := 2) sc_law_first_free.nd rfl (Or.inl rfl)) (fun _ _ _ _ _ => pts_nil) (fun _ _ _ _ _ => (pe_tup (pa_cons pe_str (pa_cons (pv 2) pa_nil)))))))
      (C8.pss_cut (ps_set (i := 1) sc_law_first_free.nd rfl (Or.inl rfl) (pe_op op_cat (pv 1) (pe_lc (own := [("k", 2)]) (g := gName 2) rfl sc_law_first_free.nd (pi_range1 rfl T.b_range (pa_cons (pe_op op_add (pe_callB call_len_seq (by rfl) T.b_len (by decide +kernel) (pa_cons (pv 0) pa_nil)) pe_int) pa_nil)) (blkOk_by (own := [("k", 2)]) (N := ["taken", "order", "k", "place"]) (sc := defScope s_law_first_free) (by decide +kernel)) (fun _ _ _ _ _ => pg_name (i := 2) sc_law_first_free.nd rfl (Or.inl rfl)) (fun _ _ _ _ _ => pts_nil) (fun _ _ _ _ _ => (pe_tup (pa_cons pe_str (pa_cons (pv 2) pa_nil)))))))
      (C8.pss_cut (ps_for PassesOwn.never rfl (pi_list (pv 1)) (pg_name (i := 3) sc_law_first_free.nd rfl (Or.inl rfl)) (pss_one (ps_if (pt_cmpR (op_notInD (My.u65 hr)) (pv 3) (pv 0) rfl) (pss_one (ps_ret (pv 3))) pss_nil)))
      (pss_one (ps_ret pe_non))))), ?_⟩
    refine ⟨fun σ H' => Same H H' ∧ ∃ (O : Addr) (vs : List V), H O = none ∧ H' O = some (.lst vs) ∧ DTs K H' vs (((List.range 14).map plN).map plD) ∧ σ = [some (.ref L), some (.ref O), none, none], ?_, ?_⟩
    · refine ⟨_, rfl, (by decide), (by decide), fun D nD => ?_⟩
      refine lc_range (lo := 0) (n := (8 : Int).toNat) (fun i H' => Same H H' ∧ ∃ vs, H' D = some (.lst vs) ∧ vs.length = i ∧ DTs K H' vs (((List.range i).map Pl.lo).map plD)) ⟨sN (Same.refl H) nD, [], upd_same, rfl, .nil⟩ ?_ ?_
      · rintro i H1 hi ⟨ss, vs, hv, lv, dv⟩
        have hi8 : i < 8 := hi
        rw [show (0 : Int) + (i : Int) = (i : Int) from Int.zero_add _]
        refine ⟨rfl, _, rfl, (by show 2 ≤ sizeLine; decide), fun t nt => ?_⟩
        have hv2 := sN (Same.refl H1) nt (o := .tup [.str "local", .int (i : Int)]) _ _ hv
        refine ⟨vs, hv2, by omega, sUpd (sN ss nt) nD, vs ++ [.ref t], upd_same, by simp [lv], ?_⟩
        rw [List.range_succ, List.map_append, List.map_append]
        exact ((dv.keep (KT.new nt)).app (.cons (pl_tup (p := .lo i) rfl (SqT.of upd_same)) .nil)).keep (KT.put hv2)
      rintro H1 ⟨s1, vs1, hv1, lv1, dv1⟩
      refine ⟨_, rfl, (by decide), (by decide), fun D2 nD2 => ?_⟩
      refine lc_range (lo := 0) (n := (6 : Int).toNat) (fun i H' => Same H1 H' ∧ ∃ vs, H' D2 = some (.lst vs) ∧ vs.length = i ∧ DTs K H' vs (((List.range i).map Pl.inn).map plD)) ⟨sN (Same.refl H1) nD2, [], upd_same, rfl, .nil⟩ ?_ ?_
      · rintro i H2 hi ⟨ss, vs, hv, lv, dv⟩
        have hi8 : i < 6 := hi
        rw [show (0 : Int) + (i : Int) = (i : Int) from Int.zero_add _]
        refine ⟨rfl, _, rfl, (by show 2 ≤ sizeLine; decide), fun t nt => ?_⟩
        have hv2 := sN (Same.refl H2) nt (o := .tup [.str "in", .int (i : Int)]) _ _ hv
        refine ⟨vs, hv2, by omega, sUpd (sN ss nt) nD2, vs ++ [.ref t], upd_same, by simp [lv], ?_⟩
        rw [List.range_succ, List.map_append, List.map_append]
        exact ((dv.keep (KT.new nt)).app (.cons (pl_tup (p := .inn i) rfl (SqT.of upd_same)) .nil)).keep (KT.put hv2)
      rintro H2 ⟨s2, vs2, hv2, lv2, dv2⟩
      have e8 : (8 : Int).toNat = 8 := rfl
      have e6 : (6 : Int).toNat = 6 := rfl
      refine ⟨_, _, _, _, rfl, rfl, s2 _ _ hv1, hv2, by omega, fun O nO => ?_⟩
      have s12 := sTr s1 s2
      refine ⟨sN s12 nO, O, _, none_of s12 nO, upd_same, ?_, rfl⟩
      rw [← plN_14, List.map_append]
      exact ((dv1.keep (KT.same s2)).app dv2).keep (KT.new nO)
    rintro σ H1 ⟨s1, O, vs1, nO, hO, dO, rfl⟩
    refine ⟨fun σ H' => Same H H' ∧ ∃ (O : Addr) (vs : List V), H' O = some (.lst vs) ∧ DTs K H' vs (((List.range (14 + (ps.length + 1))).map plN).map plD) ∧ σ = [some (.ref L), some (.ref O), none, none], ?_, ?_⟩
    · refine ⟨_, rfl, _, rfl, L, us, rfl, .inl (SqL.of (s1 _ _ hL)), _, _, rfl, rfl, _, rfl, by omega, by omega, fun D nD => ?_⟩
      refine lc_range (lo := 0) (n := ((us.length : Int) + 1).toNat) (fun i H' => Same H1 H' ∧ ∃ vs, H' D = some (.lst vs) ∧ vs.length = i ∧ DTs K H' vs (((List.range i).map Pl.sl).map plD)) ⟨sN (Same.refl H1) nD, [], upd_same, rfl, .nil⟩ ?_ ?_
      · rintro i H2 hi ⟨ss, vs, hv, lv, dv⟩
        rw [show (0 : Int) + (i : Int) = (i : Int) from Int.zero_add _]
        refine ⟨rfl, _, rfl, (by show 2 ≤ sizeLine; decide), fun t nt => ?_⟩
        have hv2 := sN (Same.refl H2) nt (o := .tup [.str "slot", .int (i : Int)]) _ _ hv
        refine ⟨vs, hv2, by omega, sUpd (sN ss nt) nD, vs ++ [.ref t], upd_same, by simp [lv], ?_⟩
        rw [List.range_succ, List.map_append, List.map_append]
        exact ((dv.keep (KT.new nt)).app (.cons (pl_tup (p := .sl i) rfl (SqT.of upd_same)) .nil)).keep (KT.put hv2)
      rintro H2 ⟨s2, vs2, hv2, lv2, dv2⟩
      have lO : vs1.length = 14 := by rw [dO.len]; simp
      refine ⟨_, _, _, _, rfl, rfl, s2 _ _ hO, hv2, by omega, fun O2 nO2 => ?_⟩
      refine ⟨sN (sTr s1 s2) nO2, O2, _, upd_same, ?_, rfl⟩
      rw [← plN_all, List.map_append]
      have e : ((us.length : Int) + 1).toNat = ps.length + 1 := by omega
      rw [e] at dv2
      exact ((dO.keep (KT.same s2)).app dv2).keep (KT.new nO2)
    rintro σ H2 ⟨s2, O2, vs2, hO2, dO2, rfl⟩
    have lvs2 : vs2.length = 14 + (ps.length + 1) := by rw [dO2.len]; simp
    refine ⟨fun _ _ => False, ?_, fun _ _ z => z.elim⟩
    refine ⟨_, rfl, O2, rfl, ⟨_, SqL.of hO2⟩, ?_⟩
    refine for_list (K := K) (a := O2) (xs := vs2) (fun i σ H' => H2 = H' ∧ (∀ j, j < i → plN j ∈ ps) ∧ ∃ o2 o3, σ = [some (.ref L), some (.ref O2), o2, o3]) ⟨rfl, fun j h => absurd h (by omega), _, _, rfl⟩ (fun i σ H' _ h => h.1 ▸ SqL.of hO2) ?_ ?_
    · rintro i y σ H3 hy ⟨rfl, hj, o2, o3, rfl⟩
      obtain ⟨d, ed, dy⟩ := dO2.at hy
      have hi := (List.getElem?_eq_some_iff.mp hy).1
      rw [List.map_map, List.getElem?_map, List.getElem?_range (by omega)] at ed
      obtain rfl := Option.some.inj ed
      refine ⟨_, rfl, _, rfl, plD (plN i), _, DT.dp dy, hD s2, pl_shaped _, pls_shaped _, ?_⟩
      rw [pl_any]
      refine ⟨_, rfl, ite3 (fun e => ?_) (fun e => ?_)⟩
      · have ni : plN i ∉ ps := by simpa using e
        exact ⟨_, rfl, q i y _ ⟨ni, hj⟩ dy s2⟩
      · have ni : plN i ∈ ps := by simpa using e
        exact ⟨rfl, fun j h => by
          by_cases z : j = i
          · exact z ▸ ni
          · exact hj j (by omega), _, _, rfl⟩
    · rintro σ H3 ⟨rfl, hj, o2, o3, rfl⟩
      have := ffI_le hj
      omega
end

/-! ### the law's own assignment -/
def spLAs (K : PySem.W.Frag) (C : Addr) : Sp := fun vs H Q _ => ∃ (p : Addr) (g : Int) (xs : List In) (rs : List (List Int)) (ar : Int), vs = [.ref p] ∧ UnP K C H p g xs rs ∧ arI p C H ar ∧ 0 ≤ ar ∧ ar ≤ g ∧
  ∀ (L : Addr) (us : List V) (ps : List Pl) (H' : Hp), H' L = some (.lst us) → DTs K H' us (ps.map plD) → (∀ (fs ms : List Nat), Liv xs rs ms → fs.length = g.toNat → (∀ i j, i < g.toNat → gb fs i j = true → j < g.toNat) → (∀ i j, i < g.toNat → (gb fs i j = true ↔ i ≠ j ∧ (raw xs rs ms i j ∨ raw xs rs ms j i))) → ps = asF fs (usedB xs) (in0 g.toNat ar (ms.getD 0 0)) g.toNat) → ps.length = g.toNat → Same H H' → Q (.ref L) H'
def spSameA (K : PySem.W.Frag) : Sp := fun vs H Q _ => ∃ (v : V) (L : Addr) (us : List V) (ps : List Pl), vs = [v, .ref L] ∧ DT K H v (.tuple (ps.map plD)) ∧ H L = some (.lst us) ∧ DTs K H us (ps.map plD) ∧ ps.length ≤ 900 ∧ Q (.bl true) H
theorem ffI_mem {ps qs : List Pl} (h : ∀ p, p ∈ ps ↔ p ∈ qs) {i : Nat} (f : ffI ps i) : ffI qs i := ⟨fun z => f.1 ((h _).mpr z), fun j hj => (h _).mp (f.2 j hj)⟩
theorem arI.same {p C : Addr} {H H' : Hp} {ar : Int} (h : arI p C H ar) (s : Same H H') : arI p C H' ar := by
  obtain ⟨dx', v0', v2', v3', v4', ca', ra', hp'⟩ := h
  exact ⟨dx', v0', v2', v3', v4', ca', ra', s _ _ hp'⟩
theorem and_congr_left' {a b c : Prop} (h : a ↔ b) : a ∧ c ↔ b ∧ c := ⟨fun z => ⟨h.mp z.1, z.2⟩, fun z => ⟨h.mpr z.1, z.2⟩⟩
section
variable {P : Program} {w : World} {K : PySem.W.Frag} {mg : Str → Option Value} {base : Heap} {a : Ad}
theorem ok_law_assigned (T : Txt K mg a) : FnOk P w K mg base CX0 5 a.f_law_assigned a.d_law_assigned ["unit"] (spLAs K a.C_Unit) := by
  have G_law_reads : FnOk P w K mg base CX0 2 _ _ _ _ := ok_law_reads T
  have G_law_live : FnOk P w K mg base CX0 3 _ _ _ _ := ok_law_live T
  have G_law_conflicts : FnOk P w K mg base CX0 4 _ _ _ _ := ok_law_conflicts T
  have G_law_first_free : FnOk P w K mg base CX0 1 _ _ _ _ := ok_law_first_free T
  refine T.F__law_assigned.ok sc_law_assigned (fun vs H Q E h => ?_) (fun cdv A outer s H vs Q E hr h => ?_)
  · obtain ⟨_, _, _, _, _, rfl, _⟩ := h; rfl
  · obtain ⟨p, g, xs, rs, ar, rfl, U, ha, a0, ag, q⟩ := h
    have hz := sizeLine_eq
    have g9 := U.k.g9
    have g3 := U.k.g3
    have n4 := U.k.n4
    have n9 := U.k.n9
    obtain ⟨dx, v0, w1, w2, w4, ca, ra, us, ws, hp, hca, hcs, hra, hws⟩ := U.o
    refine ⟨_, (C8.pss_cut (ps_set (i := 1) sc_law_assigned.nd rfl (Or.inl rfl) (pe_lst pa_nil))
      (C8.pss_cut (ps_for PassesOwn.never rfl (pi_tup (pe_fld (pv 0) rfl)) (pg_name (i := 2) sc_law_assigned.nd rfl (Or.inl rfl)) (pss_one (ps_set (i := 1) sc_law_assigned.nd rfl (Or.inl rfl) (pe_op op_cat (pv 1) (pe_call G_law_reads (hr.mono (by decide)) rfl T.g__law_reads T.k__law_reads T.bd__law_reads .nil pass0 (pa_cons (pv 2) pa_nil))))))
      (C8.pss_cut (ps_set (i := 3) sc_law_assigned.nd rfl (Or.inl rfl) (pe_ix ix_list (pe_call G_law_live (hr.mono (by decide)) rfl T.g__law_live T.k__law_live T.bd__law_live .nil pass0 (pa_cons (pv 0) pa_nil)) pe_int (fun _ _ => rfl)))
      (C8.pss_cut (ps_set (i := 4) sc_law_assigned.nd rfl (Or.inr rfl) (pe_call G_law_conflicts (hr.mono (by decide)) rfl T.g__law_conflicts T.k__law_conflicts T.bd__law_conflicts .nil pass0 (pa_cons (pv 0) pa_nil)))
      (C8.pss_cut (ps_set (i := 5) sc_law_assigned.nd rfl (Or.inr rfl) (pe_op op_rep (pe_lst (pa_cons pe_non pa_nil)) (pe_fld (pv 0) rfl)))
      (C8.pss_cut (ps_for PassesOwn.never rfl (pi_range1 rfl T.b_range (pa_cons (pe_fld (pv 0) rfl) pa_nil)) (pg_name (i := 6) sc_law_assigned.nd rfl (Or.inr rfl)) (pss_one (ps_if (pt_val (pe_ix ix_list (pv 3) (pv 6) (fun _ _ => rfl))) (pss_one (ps_asg (pe_tup (pa_cons pe_str (pa_cons (pv 6) pa_nil))) (pg_sub (pv 5) (pv 6) set_list))) pss_nil)))
      (C8.pss_cut (ps_for PassesOwn.never rfl (pi_range1 rfl T.b_range (pa_cons (pe_fld (pv 0) rfl) pa_nil)) (pg_name (i := 6) sc_law_assigned.nd rfl (Or.inr rfl)) (pss_one (ps_if (PW.pt (pw_and (pt_cmpR op_inS (pv 6) (pv 1) rfl) (pw_and1 (pt_cmpR op_isN (pe_ix ix_list (pv 5) (pv 6) (fun _ _ => rfl)) pe_non (nomark _))))) (pss_one (ps_asg (pe_call G_law_first_free (hr.mono (by decide)) rfl T.g__law_first_free T.k__law_first_free T.bd__law_first_free .nil pass0 (pa_cons (pe_lc (own := [("j", 7)]) (g := gName 7) rfl sc_law_assigned.nd (pi_range1 rfl T.b_range (pa_cons (pe_fld (pv 0) rfl) pa_nil)) (blkOk_by (own := [("j", 7)]) (N := ["unit", "used", "instruction", "first", "found", "places", "k", "j"]) (sc := defScope s_law_assigned) (by decide +kernel)) (fun _ _ _ _ _ => pg_name (i := 7) sc_law_assigned.nd rfl (Or.inl rfl)) (fun _ _ _ _ _ => (pts_one (pt_val (pe_ix (ix_listK (K := K) rfl) (pe_ix (ix_listK (K := K) rfl) (pv 4) (pv 6) (fun _ _ => rfl)) (pv 7) (fun _ _ => rfl))))) (fun _ _ _ _ _ => (pe_ix (ix_listK (K := K) rfl) (pv 5) (pv 7) (fun _ _ => rfl)))) pa_nil)) (pg_sub (pv 5) (pv 6) set_list))) pss_nil)))
      (pss_one (ps_ret (pv 5)))))))))), ?_⟩
    refine ⟨fun σ H' => ∃ L0, Same H H' ∧ H' L0 = some (.lst []) ∧ σ = [some (.ref p), some (.ref L0), none, none, none, none, none, none], ⟨(by show 0 ≤ sizeLine; decide), fun L0 n0 => ⟨L0, sN (Same.refl H) n0, upd_same, rfl⟩⟩, ?_⟩
    rintro σ H0 ⟨L0, s0, hL0, rfl⟩
    refine ⟨fun σ H' => ∃ (L : Addr) (ns : List Int) (o2 : Option V), H' L = some (.lst (ns.map V.int)) ∧ (∀ k : Nat, (k : Int) ∈ ns ↔ usedB xs k = true) ∧ Same H H' ∧ σ = [some (.ref p), some (.ref L), o2, none, none, none, none, none], ?_, ?_⟩
    · refine ⟨_, rfl, p, a.C_Unit, dx, _, _, rfl, s0 _ _ hp, T.cl_Unit, T.n_Unit_code, un_cd _ _ _ _ _ _ _, ca, rfl, ⟨_, seqT s0 hca⟩, ?_⟩
      refine for_tup (K := K) (a := ca) (xs := us) (fun i σ H' => ∃ (L : Addr) (o2 : Option V), σ = [some (.ref p), some (.ref L), o2, none, none, none, none, none] ∧ H' L = some (.lst (((xs.take i).flatMap In.rdI).map V.int)) ∧ ((xs.take i).flatMap In.rdI).length ≤ 10 * i ∧ Same H H') ⟨L0, _, rfl, hL0, Nat.le_refl _, s0⟩ (fun i σ H' _ ⟨_, _, _, _, _, ss⟩ => seqT ss hca) ?_ ?_
      · rintro i y σ H1 hy ⟨L, o2, rfl, hL, ll, ss⟩
        obtain ⟨d, ed, dy⟩ := hcs.at hy
        rw [List.getElem?_map] at ed
        obtain ⟨x, ex, rfl⟩ := Option.map_eq_some_iff.mp ed
        have Ix := U.k.x i x ex
        have hol := Ix.l
        have hi : i < xs.length := (List.getElem?_eq_some_iff.mp ex).1
        have hrl : x.rdI.length ≤ 10 := by
          unfold In.rdI
          rw [List.length_map]
          exact Nat.le_trans (List.length_filter_le _ _) hol
        refine ⟨_, rfl, _, rfl, y, x, rfl, dy.keep (KT.same ss), hol, fun N H2 hN s2 => ?_⟩
        refine ⟨_, _, _, _, rfl, rfl, s2 _ _ hL, hN, by rw [List.length_map, List.length_map]; omega, fun M nM => ?_⟩
        refine ⟨M, _, rfl, ?_, ?_, sN (sTr ss s2) nM⟩
        · rw [upd_same, List.take_succ, ex, List.flatMap_append, List.map_append]
          simp
        · rw [List.take_succ, ex, List.flatMap_append, List.length_append]
          simp only [Option.toList, List.flatMap_cons, List.flatMap_nil, List.append_nil]
          omega
      · rintro σ H1 ⟨L, o2, rfl, hL, ll, ss⟩
        rw [show us.length = xs.length by rw [hcs.len]; simp, List.take_length] at hL
        refine ⟨L, _, _, hL, fun k => ?_, ss, rfl⟩
        unfold usedB
        rw [List.mem_flatMap, List.any_eq_true]
        exact ⟨fun ⟨x, h1, h2⟩ => ⟨x, h1, decide_eq_true h2⟩, fun ⟨x, h1, h2⟩ => ⟨x, h1, of_decide_eq_true h2⟩⟩
    clear s0 hL0
    rintro σ H1 ⟨L, ns, o2, hL, hns, s1, rfl⟩
    refine ⟨fun σ H' => ∃ (M : Addr) (c0 : List Bool), H' M = some (.lst (c0.map V.bl)) ∧ c0.length = g.toNat ∧ (∀ ms, Liv xs rs ms → ∀ k, k < g.toNat → c0.getD k false = (ms.getD 0 0).testBit k) ∧ Same H1 H' ∧ σ = [some (.ref p), some (.ref L), o2, some (.ref M), none, none, none, none], ?_, ?_⟩
    · refine ⟨_, rfl, p, g, xs, rs, rfl, U.same s1, fun LL qs c H2 R lr er s2 => ?_⟩
      have e0 : ((List.range xs.length).map fun k => V.ref (qs k))[0]? = some (V.ref (qs 0)) := rng_at (f := fun k => V.ref (qs k)) (by omega)
      exact ⟨_, _, _, _, rfl, rfl, SqL.of R.o, atI_nat (j := 0) e0, qs 0, c 0, R.r 0 (by omega), lr 0 (by omega), fun ms lv k hk => er ms lv 0 k (by omega) hk, s2, rfl⟩
    rintro σ H2 ⟨M, c0, hM, lc0, hc0, s2, rfl⟩
    have s12 := sTr s1 s2
    refine ⟨fun σ H' => ∃ (F : Addr) (qs : Nat → Addr) (c : Nat → List Bool), H' F = some (.lst ((List.range g.toNat).map fun k => V.ref (qs k))) ∧ (∀ k, k < g.toNat → H' (qs k) = some (.lst ((c k).map V.bl))) ∧ (∀ i, i < g.toNat → (c i).length = g.toNat) ∧ (∀ ms, Liv xs rs ms → ∀ i j, i < g.toNat → j < g.toNat → (rb c i j = true ↔ i ≠ j ∧ (raw xs rs ms i j ∨ raw xs rs ms j i))) ∧ Same H2 H' ∧ σ = [some (.ref p), some (.ref L), o2, some (.ref M), some (.ref F), none, none, none], ?_, ?_⟩
    · exact ⟨_, rfl, p, g, xs, rs, rfl, U.same s12, fun LL qs c H3 R lr er s3 => ⟨LL, qs, c, R.o, R.r, lr, er, s3, rfl⟩⟩
    rintro σ H3 ⟨F, qs, c, hF, hqs, lc, hc, s3, rfl⟩
    have s13 := sTr s12 s3
    have hL3 := s3 _ _ (s2 _ _ hL)
    have hM3 := s3 _ _ hM
    clear s1 s2 s12 hL hM s3
    have rep_non : ∀ n, (List.replicate n [V.non]).flatten = List.replicate n V.non := fun n => by
      induction n with
      | zero => rfl
      | succ n ih => rw [List.replicate_succ, List.flatten_cons, ih, List.replicate_succ]; rfl
    have rep_dt : ∀ (H' : Hp) n, DTs K H' (List.replicate n V.non) ((List.replicate n Pl.no).map plD) := fun H' n => by
      induction n with
      | zero => exact .nil
      | succ n ih => rw [List.replicate_succ, List.replicate_succ]; exact .cons .non ih
    refine ⟨fun σ H' => ∃ N, H3 N = none ∧ H' N = some (.lst (List.replicate g.toNat V.non)) ∧ Same H3 H' ∧ σ = [some (.ref p), some (.ref L), o2, some (.ref M), some (.ref F), some (.ref N), none, none], ?_, ?_⟩
    · refine ⟨(by show 1 ≤ sizeLine; decide), fun l1 m1 => ⟨_, rfl, p, a.C_Unit, dx, _, _, rfl, (sN s13 m1) _ _ hp, T.cl_Unit, T.n_Unit_registers, un_rs _ _ _ _ _ _ _, _, _, _, rfl, rfl, upd_same, by omega, by omega, (by simp; omega), fun N nN => ?_⟩⟩
      have sA := sN (Same.refl H3) m1 (o := .lst [V.non])
      exact ⟨N, none_of sA nN, by rw [upd_same, rep_non], sN sA nN, rfl⟩
    rintro σ H4 ⟨N, nN, hN, s4, rfl⟩
    obtain ⟨dx', v0', v2', v3', v4', ca', ra', hp'⟩ := ha
    refine ⟨fun σ H' => ∃ (us' : List V) (ps : List Pl) (o6 o7 : Option V), H' N = some (.lst us') ∧ DTs K H' us' (ps.map plD) ∧ (∀ ms, Liv xs rs ms → ps = in0 g.toNat ar (ms.getD 0 0)) ∧ ps.length = g.toNat ∧ Same H3 H' ∧ σ = [some (.ref p), some (.ref L), o2, some (.ref M), some (.ref F), some (.ref N), o6, o7], ?_, ?_⟩
    · refine ⟨_, rfl, p, a.C_Unit, dx', _, _, rfl, (sTr s13 s4) _ _ hp', T.cl_Unit, T.n_Unit_arguments, un_ar _ _ _ _ _ _ _, ar, rfl, by omega, by omega, ?_⟩
      refine for_range (lo := 0) (n := ar.toNat) (fun i σ H' => ∃ (us' : List V) (o6 o7 : Option V), H' N = some (.lst us') ∧ DTs K H' us' (((List.range g.toNat).map fun k => if k < i ∧ c0.getD k false = true then Pl.inn k else .no).map plD) ∧ Same H3 H' ∧ σ = [some (.ref p), some (.ref L), o2, some (.ref M), some (.ref F), some (.ref N), o6, o7]) ⟨_, _, _, hN, ?_, s4, rfl⟩ ?_ ?_
      · have : ((List.range g.toNat).map fun k => if k < 0 ∧ c0.getD k false = true then Pl.inn k else .no) = List.replicate g.toNat Pl.no := List.ext_getElem (by simp) fun i h1 h2 => by simp
        rw [this]
        exact rep_dt _ _
      · clear hN s4
        rintro i σ H5 hi ⟨us', o6, o7, hN, dN, s5, rfl⟩
        have hi' : i < g.toNat := by omega
        rw [show (0 : Int) + (i : Int) = (i : Int) from Int.zero_add _]
        have lN : us'.length = g.toNat := by rw [dN.len]; simp
        have ec : (c0.map V.bl)[i]? = some (V.bl (c0.getD i false)) := bl_at (by omega)
        have at' : ((List.range g.toNat).map fun k => if k < i + 1 ∧ c0.getD k false = true then Pl.inn k else .no) = if c0.getD i false = true then ((List.range g.toNat).map fun k => if k < i ∧ c0.getD k false = true then Pl.inn k else .no).set i (.inn i) else ((List.range g.toNat).map fun k => if k < i ∧ c0.getD k false = true then Pl.inn k else .no) := by
          split
          · rename_i e
            refine List.ext_getElem (by simp) fun j h1 h2 => ?_
            rw [List.getElem_set]
            simp only [List.getElem_map, List.getElem_range]
            by_cases z : i = j
            · subst z
              rw [if_pos rfl, if_pos ⟨by omega, e⟩]
            · rw [if_neg z]
              exact if_iff ⟨fun y => ⟨by omega, y.2⟩, fun y => ⟨by omega, y.2⟩⟩
          · rename_i e
            refine List.map_congr_left fun j _ => if_iff ⟨fun y => ⟨?_, y.2⟩, fun y => ⟨by omega, y.2⟩⟩
            by_cases z : j = i
            · exact absurd (z ▸ y.2) e
            · omega
        rw [at']
        refine ⟨_, rfl, _, rfl, _, _, _, _, rfl, rfl, SqL.of (s5 _ _ hM3), atI_nat ec, _, rfl, ite3 (fun e => ?_) (fun e => ?_)⟩
        · rw [if_pos e]
          refine ⟨_, rfl, (by show 2 ≤ sizeLine; decide), fun t nt => ?_⟩
          have s6 := sN (Same.refl H5) nt (o := .tup [.str "in", .int (i : Int)])
          have hN6 := s6 _ _ hN
          refine ⟨_, rfl, _, rfl, _, _, _, _, rfl, rfl, hN6, ixN_nat (by omega), ?_⟩
          refine ⟨_, _, _, upd_same, ?_, sUpd (sTr s5 s6) nN, rfl⟩
          rw [List.map_set]
          exact ((dN.keep (KT.same s6)).set (pl_tup (p := .inn i) rfl (SqT.of (K := K) upd_same))).keep (KT.put hN6)
        · rw [if_neg (by rw [e]; simp)]
          exact ⟨us', _, _, hN, dN, s5, rfl⟩
      · clear hN s4
        rintro σ H5 ⟨us', o6, o7, hN, dN, s5, rfl⟩
        refine ⟨us', _, _, _, hN, dN, fun ms lv => ?_, by simp, s5, rfl⟩
        unfold in0
        refine List.map_congr_left fun k hk => if_iff ?_
        rw [hc0 ms lv k (List.mem_range.mp hk)]
        exact ⟨fun y => ⟨y.2, by omega⟩, fun y => ⟨by omega, y.1⟩⟩
    clear hN s4
    rintro σ H5 ⟨us', ps0, o6, o7, hN, dN, hps0, lps0, s5, rfl⟩
    refine ⟨fun σ H' => ∃ (us' : List V) (ps : List Pl) (o6 o7 : Option V), H' N = some (.lst us') ∧ DTs K H' us' (ps.map plD) ∧ (∀ (fs ms : List Nat), Liv xs rs ms → fs.length = g.toNat → (∀ i j, i < g.toNat → gb fs i j = true → j < g.toNat) → (∀ i j, i < g.toNat → (gb fs i j = true ↔ i ≠ j ∧ (raw xs rs ms i j ∨ raw xs rs ms j i))) → ps = asF fs (usedB xs) (in0 g.toNat ar (ms.getD 0 0)) g.toNat) ∧ ps.length = g.toNat ∧ Same H3 H' ∧ σ = [some (.ref p), some (.ref L), o2, some (.ref M), some (.ref F), some (.ref N), o6, o7], ?_, ?_⟩
    · refine ⟨_, rfl, p, a.C_Unit, dx, _, _, rfl, (sTr s13 s5) _ _ hp, T.cl_Unit, T.n_Unit_registers, un_rs _ _ _ _ _ _ _, g, rfl, by omega, by omega, ?_⟩
      refine for_range (lo := 0) (n := g.toNat) (fun i σ H' => ∃ (us' : List V) (ps : List Pl) (o6 o7 : Option V), H' N = some (.lst us') ∧ DTs K H' us' (ps.map plD) ∧ (∀ (fs ms : List Nat), Liv xs rs ms → fs.length = g.toNat → (∀ i j, i < g.toNat → gb fs i j = true → j < g.toNat) → (∀ i j, i < g.toNat → (gb fs i j = true ↔ i ≠ j ∧ (raw xs rs ms i j ∨ raw xs rs ms j i))) → ps = asF fs (usedB xs) (in0 g.toNat ar (ms.getD 0 0)) i) ∧ ps.length = g.toNat ∧ Same H3 H' ∧ σ = [some (.ref p), some (.ref L), o2, some (.ref M), some (.ref F), some (.ref N), o6, o7]) ⟨us', ps0, _, _, hN, dN, fun fs ms lv _ _ _ => hps0 ms lv, lps0, s5, rfl⟩ ?_ ?_
      · clear hN dN hps0 lps0 s5 us' ps0 o6 o7 H5
        rintro i σ H5 hi ⟨us', ps, o6, o7, hN, dN, hps, lps, s5, rfl⟩
        rw [show (0 : Int) + (i : Int) = (i : Int) from Int.zero_add _]
        have s15 := sTr s13 s5
        have lN : us'.length = g.toNat := by rw [dN.len, List.length_map, lps]
        refine ⟨_, rfl, _, rfl, L, ns.map V.int, rfl, .inl (SqL.of (s5 _ _ hL3)), rfl, flat_ints _, ?_⟩
        rw [inV_int]
        refine ⟨_, rfl, ?_⟩
        have un : ∀ {b : Bool}, decide ((i : Int) ∈ ns) = b → usedB xs i = b := fun {b} e => by
          rw [← e, Bool.eq_iff_iff, decide_eq_true_eq]
          exact (hns i).symm
        have step : ∀ (fs ms : List Nat), Liv xs rs ms → fs.length = g.toNat → (∀ i j, i < g.toNat → gb fs i j = true → j < g.toNat) → (∀ i j, i < g.toNat → (gb fs i j = true ↔ i ≠ j ∧ (raw xs rs ms i j ∨ raw xs rs ms j i))) → asF fs (usedB xs) (in0 g.toNat ar (ms.getD 0 0)) (i + 1) = if usedB xs i = true ∧ ps.getD i .no = .no then ps.set i (plN (ffN (rowP fs ps i))) else ps := fun fs ms lv l1 l2 l3 => by
          rw [hps fs ms lv l1 l2 l3]; rfl
        cases e1 : decide ((i : Int) ∈ ns) with
        | false => exact iteF (iteF ⟨us', ps, _, _, hN, dN, fun fs ms lv l1 l2 l3 => by rw [step fs ms lv l1 l2 l3, if_neg (by rw [un e1]; simp)], lps, s5, rfl⟩)
        | true =>
          obtain ⟨v, ev, dv⟩ := dN.get (pls_at (k := i) (by omega))
          refine iteT ⟨_, rfl, _, rfl, _, _, _, _, rfl, rfl, SqL.of hN, atI_nat ev, rfl, _, rfl, ?_⟩
          rw [dv.plno]
          cases e2 : decide (ps.getD i .no = .no) with
          | false => exact iteF ⟨us', ps, _, _, hN, dN, fun fs ms lv l1 l2 l3 => by rw [step fs ms lv l1 l2 l3, if_neg fun z => of_decide_eq_false e2 z.2], lps, s5, rfl⟩
          | true =>
            refine iteT ⟨_, rfl, p, a.C_Unit, dx, _, _, rfl, s15 _ _ hp, T.cl_Unit, T.n_Unit_registers, un_rs _ _ _ _ _ _ _, g, rfl, by omega, by omega, fun D nD => ?_⟩
            have ep : ((List.range g.toNat).map fun k => V.ref (qs k))[i]? = some (V.ref (qs i)) := rng_at (f := fun k => V.ref (qs k)) hi
            refine lc_range (lo := 0) (n := g.toNat) (fun j H' => Same H5 H' ∧ ∃ us2, H' D = some (.lst us2) ∧ us2.length ≤ j ∧ DTs K H' us2 ((((List.range j).filter fun k => rb c i k).map fun j => ps.getD j Pl.no).map plD)) ⟨sN (Same.refl H5) nD, [], upd_same, Nat.le_refl _, .nil⟩ ?_ ?_
            · rintro j H6 hj ⟨s6, us2, hD, l2, d2⟩
              rw [show (0 : Int) + (j : Int) = (j : Int) from Int.zero_add _]
              have s36 := sTr s5 s6
              have eb : ((c i).map V.bl)[j]? = some (V.bl (rb c i j)) := bl_at (by rw [lc i hi]; exact hj)
              refine ⟨rfl, _, rfl, _, rfl, _, _, _, _, rfl, rfl, SqL.of (s36 _ _ hF), atI_nat ep, _, rfl, _, _, _, _, rfl, rfl, SqL.of (s36 _ _ (hqs i hi)), atI_nat eb, _, rfl, ?_⟩
              rw [List.range_succ, List.filter_append]
              cases e3 : rb c i j with
              | false => exact iteF ⟨s6, us2, hD, by omega, by simpa [e3] using d2⟩
              | true =>
                obtain ⟨v2, ev2, dv2⟩ := (dN.keep (KT.same s6)).get (pls_at (k := j) (by omega))
                refine iteT ⟨_, rfl, _, rfl, _, _, _, _, rfl, rfl, SqL.of (s6 _ _ hN), atI_nat ev2, ?_⟩
                refine ⟨us2, hD, by omega, sUpd s6 nD, us2 ++ [v2], upd_same, by simp; omega, ?_⟩
                rw [List.map_append, List.map_append]
                have e4 : ((List.filter (fun k => rb c i k) [j]).map fun j => ps.getD j Pl.no).map plD = [plD (ps.getD j .no)] := by simp [e3]
                rw [e4]
                exact (d2.app (.cons dv2 .nil)).keep (KT.put hD)
            · rintro H6 ⟨s6, us2, hD, l2, d2⟩
              have lr : (((List.range g.toNat).filter fun k => rb c i k).map fun j => ps.getD j Pl.no).length ≤ 900 := by
                rw [List.length_map]
                exact Nat.le_trans (List.length_filter_le _ _) (by rw [List.length_range]; omega)
              refine ⟨D, us2, _, rfl, hD, d2, lr, fun m u H7 hf du s7 => ?_⟩
              have s57 := sTr s6 s7
              have hN7 := s57 _ _ hN
              refine ⟨_, rfl, _, rfl, _, _, _, _, rfl, rfl, hN7, ixN_nat (by omega), ?_⟩
              refine ⟨_, ps.set i (plN m), _, _, upd_same, ?_, fun fs ms lv l1 l2 l3 => ?_, by rw [List.length_set]; exact lps, sUpd (sTr s5 s57) nN, rfl⟩
              · rw [List.map_set]
                exact ((dN.keep (KT.same s57)).set du).keep (KT.put hN7)
              · rw [step fs ms lv l1 l2 l3, if_pos ⟨un e1, of_decide_eq_true e2⟩]
                have : ffI (rowP fs ps i) m := ffI_mem (fun q' => by
                  unfold rowP
                  rw [List.mem_map, List.mem_map]
                  refine exists_congr fun j => and_congr_left' ?_
                  rw [List.mem_filter, List.mem_range, mem_nu]
                  have h1 : gb fs i j = true ↔ _ := l3 i j hi
                  constructor
                  · rintro ⟨hj, z⟩
                    exact h1.mpr ((hc ms lv i j hi hj).mp z)
                  · intro z
                    have hj := l2 i j hi z
                    exact ⟨hj, (hc ms lv i j hi hj).mpr (h1.mp z)⟩) hf
                rw [ffN_eq this]
      · rintro σ H6 h
        exact h
    clear hN dN hps0 lps0 s5 us' ps0 o6 o7 H5
    rintro σ H5 ⟨us', ps, o6, o7, hN, dN, hps, lps, s5, rfl⟩
    exact ⟨_, rfl, q N us' ps H5 hN dN hps lps (sTr s13 s5)⟩
end

/-! ### _law_same, the law -/
def spLaw (K : PySem.W.Frag) : Sp := fun vs H Q _ => ∃ (a : Addr) (ns : List Int), vs = [.ref a] ∧ SqL K H a (ns.map V.int) ∧ ns.length ≤ 63 ∧ ∀ H', Q (.bl true) H'
theorem pl_pair {q : Pl} (h : q ≠ .no) : ∃ (sx : Str) (n : Nat), plD q = .tuple [.str sx, .int (n : Int)] := by
  cases q with
  | no => exact absurd rfl h
  | lo n => exact ⟨_, n, rfl⟩
  | inn n => exact ⟨_, n, rfl⟩
  | sl n => exact ⟨_, n, rfl⟩
section
variable {P : Program} {w : World} {K : PySem.W.Frag} {mg : Str → Option Value} {base : Heap} {a : Ad}
theorem ok_law_same (T : Txt K mg a) : FnOk P w K mg base CX0 1 a.f_law_same a.d_law_same ["assignment", "due"] (spSameA K) := by
  refine T.F__law_same.ok sc_law_same (fun vs H Q E h => ?_) (fun cdv A outer s H vs Q E hr h => ?_)
  · obtain ⟨_, _, _, _, rfl, _⟩ := h; rfl
  · obtain ⟨v, L, us, ps, rfl, dv, hL, dL, l9, q⟩ := h
    have hz := sizeLine_eq
    obtain ⟨ta, zs, rfl, hzs, dzs⟩ := dv.ts
    have lzs : zs.length = ps.length := by rw [dzs.len, List.length_map]
    have lus : us.length = ps.length := by rw [dL.len, List.length_map]
    refine ⟨_, (pss_cons (ps_if (PW.pt (pw_or (pt_not (pt_val (pe_callB call_isi (by rfl) T.b_isinstance (by decide +kernel) (pa_cons (pv 0) (pa_cons (pe_bltn (v := .ty "tuple") (by rfl) T.b_tuple (by decide +kernel) rfl) pa_nil))))) (pw_or1 (pt_cmpR op_ne (pe_callB call_len_seq (by rfl) T.b_len (by decide +kernel) (pa_cons (pv 0) pa_nil)) (pe_callB call_len_seq (by rfl) T.b_len (by decide +kernel) (pa_cons (pv 1) pa_nil)) (nomark _))))) (pss_one (ps_ret pe_bl)) pss_nil)
      (pss_cons (ps_for PassesOwn.never rfl (pi_range1 rfl T.b_range (pa_cons (pe_callB call_len_seq (by rfl) T.b_len (by decide +kernel) (pa_cons (pv 1) pa_nil)) pa_nil)) (pg_name (i := 2) sc_law_same.nd rfl (Or.inl rfl)) (pss_cons (ps_set (i := 3) sc_law_same.nd rfl (Or.inl rfl) (pe_ix ix_tup (pv 0) (pv 2) (fun _ _ => rfl)))
      (pss_one (ps_if (pt_cmpR op_isN (pe_ix ix_list (pv 1) (pv 2) (fun _ _ => rfl)) pe_non (nomark _)) (pss_one (ps_if (pt_cmpR op_notN (pv 3) pe_non (nomark _)) (pss_one (ps_ret pe_bl)) pss_nil)) (pss_cons (ps_if (PW.pt (pw_or (pt_not (pt_val (pe_callB call_isi (by rfl) T.b_isinstance (by decide +kernel) (pa_cons (pv 3) (pa_cons (pe_bltn (v := .ty "tuple") (by rfl) T.b_tuple (by decide +kernel) rfl) pa_nil))))) (pw_or (pt_cmpR op_ne (pe_callB call_len_seq (by rfl) T.b_len (by decide +kernel) (pa_cons (pv 3) pa_nil)) pe_int (nomark _)) (pw_or1 (pt_not (pt_val (pe_callB call_isi (by rfl) T.b_isinstance (by decide +kernel) (pa_cons (pe_ix ix_tup (pv 3) pe_int (fun _ _ => rfl)) (pa_cons (pe_bltn (v := .ty "str") (by rfl) T.b_str (by decide +kernel) rfl) pa_nil))))))))) (pss_one (ps_ret pe_bl)) pss_nil)
      (pss_one (ps_if (PW.pt (pw_or (pt_not (pt_val (pe_callB call_isi (by rfl) T.b_isinstance (by decide +kernel) (pa_cons (pe_ix ix_tup (pv 3) pe_int (fun _ _ => rfl)) (pa_cons (pe_bltn (v := .ty "int") (by rfl) T.b_int (by decide +kernel) rfl) pa_nil))))) (pw_or (pt_val (pe_callB call_isi (by rfl) T.b_isinstance (by decide +kernel) (pa_cons (pe_ix ix_tup (pv 3) pe_int (fun _ _ => rfl)) (pa_cons (pe_bltn (v := .ty "bool") (by rfl) T.b_bool (by decide +kernel) rfl) pa_nil)))) (pw_or1 (pt_cmpR (op_neD hr.units) (pv 3) (pe_ix ix_list (pv 1) (pv 2) (fun _ _ => rfl)) (nomark _)))))) (pss_one (ps_ret pe_bl)) pss_nil)))))))
      (pss_one (ps_ret pe_bl)))), ?_⟩
    refine ⟨_, rfl, _, _, _, _, _, rfl, .ty _, tyx_tup hzs, kit_ty (by decide +kernel : kitB "tuple" "tuple" = some true), _, rfl, iteF ?_⟩
    refine ⟨_, rfl, _, _, rfl, .inr hzs, _, rfl, _, _, rfl, .inl (SqL.of hL), rfl, _, rfl, ?_⟩
    rw [show (!decide (V.int (zs.length : Int) = V.int (us.length : Int))) = false by rw [lzs, lus]; simp]
    refine iteF ⟨_, rfl, _, _, rfl, .inl (SqL.of hL), _, rfl, by omega, by omega, ?_⟩
    refine for_range (lo := 0) (n := (us.length : Int).toNat) (fun i σ H' => H = H' ∧ ∃ o2 o3, σ = [some (.ref ta), some (.ref L), o2, o3]) ⟨rfl, _, _, rfl⟩ ?_ ?_
    · rintro i σ H' hi ⟨rfl, o2, o3, rfl⟩
      rw [show (0 : Int) + (i : Int) = (i : Int) from Int.zero_add _]
      have hi' : i < ps.length := by omega
      obtain ⟨v1, ev1, dv1⟩ := dzs.get (pls_at (k := i) hi')
      obtain ⟨v2, ev2, dv2⟩ := dL.get (pls_at (k := i) hi')
      refine ⟨_, rfl, _, rfl, _, _, _, _, rfl, rfl, hzs, atI_nat ev1, _, rfl, _, rfl, _, _, _, _, rfl, rfl, SqL.of hL, atI_nat ev2, rfl, _, rfl, ?_⟩
      rw [dv2.plno]
      by_cases e0 : ps.getD i .no = .no
      · rw [decide_eq_true e0]
        refine iteT ⟨_, rfl, rfl, _, rfl, ?_⟩
        rw [dv1.plno, decide_eq_true e0]
        exact iteF ⟨rfl, _, _, rfl⟩
      · rw [decide_eq_false e0]
        refine iteF ?_
        obtain ⟨sx, n, eq⟩ := pl_pair e0
        have dv1' := dv1
        rw [eq] at dv1'
        obtain ⟨pa, rfl, hs⟩ := DT.op (z := sx) (n := n) dv1'
        have i0 : atI [V.str sx, V.int (n : Int)] 0 = some (V.str sx) := atI_nat (j := 0) rfl
        have i1 : atI [V.str sx, V.int (n : Int)] 1 = some (V.int (n : Int)) := atI_nat (j := 1) rfl
        refine ⟨_, rfl, _, _, _, _, _, rfl, .ty _, tyx_tup hs, kit_ty (by decide +kernel : kitB "tuple" "tuple" = some true), _, rfl, iteF ?_⟩
        refine ⟨_, rfl, _, _, rfl, .inr hs, rfl, _, rfl, iteF ?_⟩
        refine ⟨_, rfl, _, _, _, _, rfl, rfl, hs, i0, _, _, _, _, _, rfl, .ty _, .base (.str _), kit_ty (by decide +kernel : kitB "str" "str" = some true), _, rfl, iteF ?_⟩
        refine ⟨_, rfl, _, _, _, _, rfl, rfl, hs, i1, _, _, _, _, _, rfl, .ty _, .base (.int _), kit_ty (by decide +kernel : kitB "int" "int" = some true), _, rfl, iteF ?_⟩
        refine ⟨_, rfl, _, _, _, _, rfl, rfl, hs, i1, _, _, _, _, _, rfl, .ty _, .base (.int _), kit_ty (by decide +kernel : kitB "int" "bool" = some false), _, rfl, iteF ?_⟩
        refine ⟨_, rfl, _, rfl, _, rfl, _, _, _, _, rfl, rfl, SqL.of hL, atI_nat ev2, plD (ps.getD i .no), plD (ps.getD i .no), dv1.dp, dv2.dp, pl_shaped _, pl_shaped _, ?_⟩
        rw [pl_eqv, decide_eq_true rfl]
        exact ⟨_, rfl, iteF ⟨rfl, _, _, rfl⟩⟩
    · rintro σ H' ⟨rfl, o2, o3, rfl⟩
      exact q
theorem ok_law (T : Txt K mg a) : FnOk P w K mg base CX0 7 a.f_law a.d_law ["script"] (spLaw K) := by
  have G_law_start : FnOk P w K mg base CX0 2 _ _ _ _ := ok_law_start T
  have G_law_module : FnOk P w K mg base CX0 6 _ _ _ _ := ok_law_module T
  have G_assign : FnOk P w K mg base CX0 6 _ _ _ _ := ok_assign T
  have G_law_assigned : FnOk P w K mg base CX0 5 _ _ _ _ := ok_law_assigned T
  have G_law_same : FnOk P w K mg base CX0 1 _ _ _ _ := ok_law_same T
  refine T.F_law.ok sc_law (fun vs H Q E h => ?_) (fun cdv A outer s H vs Q E hr h => ?_)
  · obtain ⟨_, _, rfl, _⟩ := h; rfl
  · obtain ⟨sa, ns, rfl, hS, hl, q⟩ := h
    have hz := sizeLine_eq
    refine ⟨_, (pss_cons (ps_set (i := 1) sc_law.nd rfl (Or.inl rfl) (pe_call G_law_start (hr.mono (by decide)) rfl T.g__law_start T.k__law_start T.bd__law_start .nil pass0 (pa_cons (pv 0) pa_nil)))
      (pss_cons (ps_set (i := 2) sc_law.nd rfl (Or.inl rfl) (pe_call G_law_module (hr.mono (by decide)) rfl T.g__law_module T.k__law_module T.bd__law_module .nil pass0 (pa_cons (pv 1) pa_nil)))
      (pss_cons (ps_for PassesOwn.never rfl (pi_tup (pe_fld (pv 2) rfl)) (pg_name (i := 3) sc_law.nd rfl (Or.inl rfl)) (pss_cons (ps_set (i := 4) sc_law.nd rfl (Or.inl rfl) (pe_call G_law_assigned (hr.mono (by decide)) rfl T.g__law_assigned T.k__law_assigned T.bd__law_assigned .nil pass0 (pa_cons (pv 3) pa_nil)))
      (pss_cons (ps_set (i := 5) sc_law.nd rfl (Or.inl rfl) (pe_callTy call_tuple_of (by rfl) T.b_tuple (by decide +kernel) (pa_cons (pe_callTy call_list_of (by rfl) T.b_list (by decide +kernel) (pa_cons (pe_fld (pv 3) rfl) pa_nil)) pa_nil)))
      (pss_one (ps_if (PW.pt (pw_or (pt_not (pt_val (pe_call G_law_same (hr.mono (by decide)) rfl T.g__law_same T.k__law_same T.bd__law_same .nil pass0 (pa_cons (pe_call G_assign (hr.mono (by decide)) rfl T.g_assign T.k_assign T.bd_assign .nil pass0 (pa_cons (pv 3) pa_nil)) (pa_cons (pv 4) pa_nil))))) (pw_or (pt_cmpR (op_neD hr.units) (pe_fld (pv 3) rfl) (pv 5) (nomark _)) (pw_or1 (pt_not (pt_val (pe_call G_law_same (hr.mono (by decide)) rfl T.g__law_same T.k__law_same T.bd__law_same .nil pass0 (pa_cons (pe_call G_assign (hr.mono (by decide)) rfl T.g_assign T.k_assign T.bd_assign .nil pass0 (pa_cons (pv 3) pa_nil)) (pa_cons (pv 4) pa_nil))))))))) (pss_one (ps_ret pe_bl)) pss_nil)))))
      (pss_one (ps_ret pe_bl))))), ?_⟩
    refine ⟨_, rfl, sa, ns, rfl, hS, hl, fun st gg H1 n1 n2 hst s1 => ?_⟩
    refine ⟨_, rfl, tgN (fun _ => (4, 1, 0)) st (4, 0, 0), st, gg, rfl, ⟨hst, tg_same, tg_ne hst.ne.symm⟩, fun p vs τ2 H2 M S2 F2 => ?_⟩
    clear F2 hst n1 n2 s1 hS
    obtain ⟨dm, ua, v1, v2, hp, hua⟩ := M.o
    refine ⟨_, rfl, p, a.C_Module, dm, _, _, rfl, hp.1, T.cl_Module, T.n_Module_units, mo_un _ _ _, ua, rfl, ⟨_, hua⟩, ?_⟩
    refine for_tup (K := K) (a := ua) (xs := vs.map fun u => V.ref u.1) (fun i σ H' => Same H2 H' ∧ ∃ o3 o4 o5, σ = [some (.ref sa), some (.ref st), some (.ref p), o3, o4, o5]) ⟨Same.refl _, _, _, _, rfl⟩ (fun i σ H' _ h => seqT h.1 hua) ?_ ?_
    · rintro i y σ H3 hy ⟨ss, o3, o4, o5, rfl⟩
      rw [List.getElem?_map] at hy
      obtain ⟨⟨u, g, xs, rs⟩, eu, rfl⟩ := Option.map_eq_some_iff.mp hy
      have U := (M.u _ (List.mem_of_getElem? eu)).p.same ss
      dsimp only at U
      have g9 := U.k.g9
      have g3 := U.k.g3
      have n9 := U.k.n9
      obtain ⟨ar, dx', v0', w2', w3', w4', ca', ra', hp', a0, a6, ag⟩ := U.a
      have ha : arI u a.C_Unit H3 ar := ⟨dx', v0', w2', w3', w4', ca', ra', hp'⟩
      obtain ⟨dx, w0, w1, w2, w4, ca, ra, us, ws, hu, hca, hcs, hra, hws⟩ := U.o
      have lus : us.length = xs.length := by rw [hcs.len]; simp
      refine ⟨_, rfl, u, g, xs, rs, ar, rfl, U, ha, a0, ag, fun L ds ps H4 hL dL hps lps s4 => ?_⟩
      refine ⟨_, rfl, u, a.C_Unit, dx, _, _, rfl, s4 _ _ hu, T.cl_Unit, T.n_Unit_code, un_cd _ _ _ _ _ _ _, ca, us, rfl, .inr (seqT s4 hca), fun l nl => ⟨l, us, rfl, .inl ⟨SqL.of upd_same, fun ct nct => ?_⟩⟩⟩
      have s5 := sN (sN s4 nl (o := .lst us)) nct (o := .tup us)
      have s45 := sN (sN (Same.refl H4) nl (o := .lst us)) nct (o := .tup us)
      have hct : SqT K (upd (upd H4 l (.lst us)) ct (.tup us)) ct us := SqT.of upd_same
      generalize upd (upd H4 l (.lst us)) ct (.tup us) = H5 at s5 s45 hct
      have key : ∀ {v : V} {fs ms : List Nat} {H6 : Hp}, DT K H6 v (.tuple ((asF fs (usedB xs) (in0 g.toNat ar (ms.getD 0 0)) g.toNat).map plD)) → Liv xs rs ms → fs.length = g.toNat → (∀ i j, i < g.toNat → gb fs i j = true → j < g.toNat) → (∀ i j, i < g.toNat → (gb fs i j = true ↔ i ≠ j ∧ (raw xs rs ms i j ∨ raw xs rs ms j i))) → DT K H6 v (.tuple (ps.map plD)) := fun {v fs ms H6} d l1 l2 l3 l4 => by rw [hps fs ms l1 l2 l3 l4]; exact d
      refine ⟨_, rfl, u, g, xs, rs, ar, rfl, U.same s5, ha.same s5, fun v fs ms H6 dv lv lf hbd hg s6 => ?_⟩
      have s46 := sTr s45 s6
      have s56 := sTr s5 s6
      refine ⟨_, rfl, v, L, ds, ps, rfl, key dv lv lf hbd hg, s46 _ _ hL, dL.keep (KT.same s46), by omega, _, rfl, iteF ?_⟩
      have shc := (sh_code U.k).shaped (by decide)
      have dc : DT K H3 (.ref ca) (.tuple (xs.map In.D)) := .tup hca hcs
      have dc2 : DT K H6 (.ref ct) (.tuple (xs.map In.D)) := .tup (seqT s6 hct) (hcs.keep (KT.same s56))
      refine ⟨_, rfl, u, a.C_Unit, dx, _, _, rfl, s56 _ _ hu, T.cl_Unit, T.n_Unit_code, un_cd _ _ _ _ _ _ _, _, rfl, .tuple (xs.map In.D), .tuple (xs.map In.D), (dc.keep (KT.same s56)).dp, dc2.dp, shc, shc, ?_⟩
      rw [eqv_self (sh_code U.k)]
      refine ⟨_, rfl, iteF ?_⟩
      refine ⟨_, rfl, u, g, xs, rs, ar, rfl, U.same s56, ha.same s56, fun v2 fs2 ms2 H7 dv2 lv2 lf2 hbd2 hg2 s7 => ?_⟩
      have s47 := sTr s46 s7
      refine ⟨_, rfl, v2, L, ds, ps, rfl, key dv2 lv2 lf2 hbd2 hg2, s47 _ _ hL, dL.keep (KT.same s47), by omega, _, rfl, iteF ?_⟩
      exact ⟨sTr ss (sTr s56 s7), _, _, _, rfl⟩
    · rintro σ H3 ⟨ss, o3, o4, o5, rfl⟩
      exact q _
end

theorem all_mk {l : PySem.W.OpenLaw} {w : World} {K : PySem.W.Frag} {h : Heap} {mg : Str → Option Value} {fa : Addr} (X : K.In h) (G : h.Ns mainGlobals mg) (hfa : mg "law" = some (.ref fa))
    {C_Unit : Addr} (aC_Unit : PySem.W.nsIn K mainGlobals "Unit" = some (some (.ref C_Unit)))
    (pg_Unit : PySem.W.plainGet K C_Unit Str.empty = true) (hd_Unit : PySem.W.hasDictIn K C_Unit = true) (po_Unit : PySem.W.plainOver K C_Unit = true) (sa_Unit : PySem.W.findIn K (.ref C_Unit) "__setattr__" = some (some (.builtin "object.__setattr__"))) (mk_Unit : PySem.W.makesIn K C_Unit = true) (kC_Unit : PySem.W.keepIn K (.ref C_Unit) = true)
    (n_Unit_parent : PySem.W.findIn K (.ref C_Unit) "parent" = some none)
    (n_Unit_arguments : PySem.W.findIn K (.ref C_Unit) "arguments" = some none)
    (n_Unit_results : PySem.W.findIn K (.ref C_Unit) "results" = some none)
    (n_Unit_registers : PySem.W.findIn K (.ref C_Unit) "registers" = some none)
    (n_Unit_cells : PySem.W.findIn K (.ref C_Unit) "cells" = some none)
    (n_Unit_code : PySem.W.findIn K (.ref C_Unit) "code" = some none)
    (n_Unit_regions : PySem.W.findIn K (.ref C_Unit) "regions" = some none)
    {C_Module : Addr} (aC_Module : PySem.W.nsIn K mainGlobals "Module" = some (some (.ref C_Module)))
    (pg_Module : PySem.W.plainGet K C_Module Str.empty = true) (hd_Module : PySem.W.hasDictIn K C_Module = true) (po_Module : PySem.W.plainOver K C_Module = true) (sa_Module : PySem.W.findIn K (.ref C_Module) "__setattr__" = some (some (.builtin "object.__setattr__"))) (mk_Module : PySem.W.makesIn K C_Module = true) (kC_Module : PySem.W.keepIn K (.ref C_Module) = true)
    (n_Module_units : PySem.W.findIn K (.ref C_Module) "units" = some none)
    (n_Module_names : PySem.W.findIn K (.ref C_Module) "names" = some none)
    (n_Module_places : PySem.W.findIn K (.ref C_Module) "places" = some none)
    {f_Unit___init__ : Addr} {oc_Unit___init__ : Value} {od_Unit___init__ an_Unit___init__ : Option Addr} {sl_Unit___init__ : Array (Option Value)} {kV_Unit___init__ dc_Unit___init__ pm_Unit___init__ cd_Unit___init__ ct_Unit___init__ : Value}
    (a_Unit___init__ : PySem.W.findIn K (.ref C_Unit) "__init__" = some (some (.ref f_Unit___init__)))
    (i_Unit___init__ : PySem.W.isFn K (.ref f_Unit___init__) = true)
    (l_Unit___init__ : K.lookup f_Unit___init__ = some ⟨oc_Unit___init__, od_Unit___init__, .func (PySem.W.fnOf "__init__" "Unit.__init__" (defArgs s_Unit___init__) (defBody s_Unit___init__) (defScope s_Unit___init__) .none kV_Unit___init__ dc_Unit___init__ pm_Unit___init__ an_Unit___init__ cd_Unit___init__ ct_Unit___init__), sl_Unit___init__⟩)
    (c_Unit___init__ : PySem.W.codeIn K cd_Unit___init__ "Unit.__init__" = true)
    (k_Unit___init__ : PySem.W.keepIn K (.ref f_Unit___init__) = true)
    {f_Module___init__ : Addr} {oc_Module___init__ : Value} {od_Module___init__ an_Module___init__ : Option Addr} {sl_Module___init__ : Array (Option Value)} {kV_Module___init__ dc_Module___init__ pm_Module___init__ cd_Module___init__ ct_Module___init__ : Value}
    (a_Module___init__ : PySem.W.findIn K (.ref C_Module) "__init__" = some (some (.ref f_Module___init__)))
    (i_Module___init__ : PySem.W.isFn K (.ref f_Module___init__) = true)
    (l_Module___init__ : K.lookup f_Module___init__ = some ⟨oc_Module___init__, od_Module___init__, .func (PySem.W.fnOf "__init__" "Module.__init__" (defArgs s_Module___init__) (defBody s_Module___init__) (defScope s_Module___init__) .none kV_Module___init__ dc_Module___init__ pm_Module___init__ an_Module___init__ cd_Module___init__ ct_Module___init__), sl_Module___init__⟩)
    (c_Module___init__ : PySem.W.codeIn K cd_Module___init__ "Module.__init__" = true)
    (k_Module___init__ : PySem.W.keepIn K (.ref f_Module___init__) = true)
    {f_operands : Addr} {oc_operands : Value} {od_operands an_operands : Option Addr} {sl_operands : Array (Option Value)} {kV_operands dc_operands pm_operands cd_operands ct_operands : Value}
    (a_operands : PySem.W.nsIn K mainGlobals "operands" = some (some (.ref f_operands)))
    (l_operands : K.lookup f_operands = some ⟨oc_operands, od_operands, .func (PySem.W.fnOf "operands" "operands" (defArgs s_operands) (defBody s_operands) (defScope s_operands) .none kV_operands dc_operands pm_operands an_operands cd_operands ct_operands), sl_operands⟩)
    (c_operands : PySem.W.codeIn K cd_operands "operands" = true)
    (k_operands : PySem.W.keepIn K (.ref f_operands) = true)
    {f_reads : Addr} {oc_reads : Value} {od_reads an_reads : Option Addr} {sl_reads : Array (Option Value)} {kV_reads dc_reads pm_reads cd_reads ct_reads : Value}
    (a_reads : PySem.W.nsIn K mainGlobals "reads" = some (some (.ref f_reads)))
    (l_reads : K.lookup f_reads = some ⟨oc_reads, od_reads, .func (PySem.W.fnOf "reads" "reads" (defArgs s_reads) (defBody s_reads) (defScope s_reads) .none kV_reads dc_reads pm_reads an_reads cd_reads ct_reads), sl_reads⟩)
    (c_reads : PySem.W.codeIn K cd_reads "reads" = true)
    (k_reads : PySem.W.keepIn K (.ref f_reads) = true)
    {f_writes : Addr} {oc_writes : Value} {od_writes an_writes : Option Addr} {sl_writes : Array (Option Value)} {kV_writes dc_writes pm_writes cd_writes ct_writes : Value}
    (a_writes : PySem.W.nsIn K mainGlobals "writes" = some (some (.ref f_writes)))
    (l_writes : K.lookup f_writes = some ⟨oc_writes, od_writes, .func (PySem.W.fnOf "writes" "writes" (defArgs s_writes) (defBody s_writes) (defScope s_writes) .none kV_writes dc_writes pm_writes an_writes cd_writes ct_writes), sl_writes⟩)
    (c_writes : PySem.W.codeIn K cd_writes "writes" = true)
    (k_writes : PySem.W.keepIn K (.ref f_writes) = true)
    {f_can_raise : Addr} {oc_can_raise : Value} {od_can_raise an_can_raise : Option Addr} {sl_can_raise : Array (Option Value)} {kV_can_raise dc_can_raise pm_can_raise cd_can_raise ct_can_raise : Value}
    (a_can_raise : PySem.W.nsIn K mainGlobals "can_raise" = some (some (.ref f_can_raise)))
    (l_can_raise : K.lookup f_can_raise = some ⟨oc_can_raise, od_can_raise, .func (PySem.W.fnOf "can_raise" "can_raise" (defArgs s_can_raise) (defBody s_can_raise) (defScope s_can_raise) .none kV_can_raise dc_can_raise pm_can_raise an_can_raise cd_can_raise ct_can_raise), sl_can_raise⟩)
    (c_can_raise : PySem.W.codeIn K cd_can_raise "can_raise" = true)
    (k_can_raise : PySem.W.keepIn K (.ref f_can_raise) = true)
    {f_followers : Addr} {oc_followers : Value} {od_followers an_followers : Option Addr} {sl_followers : Array (Option Value)} {kV_followers dc_followers pm_followers cd_followers ct_followers : Value}
    (a_followers : PySem.W.nsIn K mainGlobals "followers" = some (some (.ref f_followers)))
    (l_followers : K.lookup f_followers = some ⟨oc_followers, od_followers, .func (PySem.W.fnOf "followers" "followers" (defArgs s_followers) (defBody s_followers) (defScope s_followers) .none kV_followers dc_followers pm_followers an_followers cd_followers ct_followers), sl_followers⟩)
    (c_followers : PySem.W.codeIn K cd_followers "followers" = true)
    (k_followers : PySem.W.keepIn K (.ref f_followers) = true)
    {f_edges : Addr} {oc_edges : Value} {od_edges an_edges : Option Addr} {sl_edges : Array (Option Value)} {kV_edges dc_edges pm_edges cd_edges ct_edges : Value}
    (a_edges : PySem.W.nsIn K mainGlobals "edges" = some (some (.ref f_edges)))
    (l_edges : K.lookup f_edges = some ⟨oc_edges, od_edges, .func (PySem.W.fnOf "edges" "edges" (defArgs s_edges) (defBody s_edges) (defScope s_edges) .none kV_edges dc_edges pm_edges an_edges cd_edges ct_edges), sl_edges⟩)
    (c_edges : PySem.W.codeIn K cd_edges "edges" = true)
    (k_edges : PySem.W.keepIn K (.ref f_edges) = true)
    {f_ways_back : Addr} {oc_ways_back : Value} {od_ways_back an_ways_back : Option Addr} {sl_ways_back : Array (Option Value)} {kV_ways_back dc_ways_back pm_ways_back cd_ways_back ct_ways_back : Value}
    (a_ways_back : PySem.W.nsIn K mainGlobals "ways_back" = some (some (.ref f_ways_back)))
    (l_ways_back : K.lookup f_ways_back = some ⟨oc_ways_back, od_ways_back, .func (PySem.W.fnOf "ways_back" "ways_back" (defArgs s_ways_back) (defBody s_ways_back) (defScope s_ways_back) .none kV_ways_back dc_ways_back pm_ways_back an_ways_back cd_ways_back ct_ways_back), sl_ways_back⟩)
    (c_ways_back : PySem.W.codeIn K cd_ways_back "ways_back" = true)
    (k_ways_back : PySem.W.keepIn K (.ref f_ways_back) = true)
    {f_taken_regions : Addr} {oc_taken_regions : Value} {od_taken_regions an_taken_regions : Option Addr} {sl_taken_regions : Array (Option Value)} {kV_taken_regions dc_taken_regions pm_taken_regions cd_taken_regions ct_taken_regions : Value}
    (a_taken_regions : PySem.W.nsIn K mainGlobals "taken_regions" = some (some (.ref f_taken_regions)))
    (l_taken_regions : K.lookup f_taken_regions = some ⟨oc_taken_regions, od_taken_regions, .func (PySem.W.fnOf "taken_regions" "taken_regions" (defArgs s_taken_regions) (defBody s_taken_regions) (defScope s_taken_regions) .none kV_taken_regions dc_taken_regions pm_taken_regions an_taken_regions cd_taken_regions ct_taken_regions), sl_taken_regions⟩)
    (c_taken_regions : PySem.W.codeIn K cd_taken_regions "taken_regions" = true)
    (k_taken_regions : PySem.W.keepIn K (.ref f_taken_regions) = true)
    {f_first_free_flow : Addr} {oc_first_free_flow : Value} {od_first_free_flow an_first_free_flow : Option Addr} {sl_first_free_flow : Array (Option Value)} {kV_first_free_flow dc_first_free_flow pm_first_free_flow cd_first_free_flow ct_first_free_flow : Value}
    (a_first_free_flow : PySem.W.nsIn K mainGlobals "first_free_flow" = some (some (.ref f_first_free_flow)))
    (l_first_free_flow : K.lookup f_first_free_flow = some ⟨oc_first_free_flow, od_first_free_flow, .func (PySem.W.fnOf "_first_free" "_first_free" (defArgs s_first_free_flow) (defBody s_first_free_flow) (defScope s_first_free_flow) .none kV_first_free_flow dc_first_free_flow pm_first_free_flow an_first_free_flow cd_first_free_flow ct_first_free_flow), sl_first_free_flow⟩)
    (c_first_free_flow : PySem.W.codeIn K cd_first_free_flow "_first_free" = true)
    (k_first_free_flow : PySem.W.keepIn K (.ref f_first_free_flow) = true)
    {f_live_masks : Addr} {oc_live_masks : Value} {od_live_masks an_live_masks : Option Addr} {sl_live_masks : Array (Option Value)} {kV_live_masks dc_live_masks pm_live_masks cd_live_masks ct_live_masks : Value}
    (a_live_masks : PySem.W.nsIn K mainGlobals "live_masks" = some (some (.ref f_live_masks)))
    (l_live_masks : K.lookup f_live_masks = some ⟨oc_live_masks, od_live_masks, .func (PySem.W.fnOf "live_masks" "live_masks" (defArgs s_live_masks) (defBody s_live_masks) (defScope s_live_masks) .none kV_live_masks dc_live_masks pm_live_masks an_live_masks cd_live_masks ct_live_masks), sl_live_masks⟩)
    (c_live_masks : PySem.W.codeIn K cd_live_masks "live_masks" = true)
    (k_live_masks : PySem.W.keepIn K (.ref f_live_masks) = true)
    {f_mask_of : Addr} {oc_mask_of : Value} {od_mask_of an_mask_of : Option Addr} {sl_mask_of : Array (Option Value)} {kV_mask_of dc_mask_of pm_mask_of cd_mask_of ct_mask_of : Value}
    (a_mask_of : PySem.W.nsIn K mainGlobals "mask_of" = some (some (.ref f_mask_of)))
    (l_mask_of : K.lookup f_mask_of = some ⟨oc_mask_of, od_mask_of, .func (PySem.W.fnOf "mask_of" "mask_of" (defArgs s_mask_of) (defBody s_mask_of) (defScope s_mask_of) .none kV_mask_of dc_mask_of pm_mask_of an_mask_of cd_mask_of ct_mask_of), sl_mask_of⟩)
    (c_mask_of : PySem.W.codeIn K cd_mask_of "mask_of" = true)
    (k_mask_of : PySem.W.keepIn K (.ref f_mask_of) = true)
    {f_numbers_of : Addr} {oc_numbers_of : Value} {od_numbers_of an_numbers_of : Option Addr} {sl_numbers_of : Array (Option Value)} {kV_numbers_of dc_numbers_of pm_numbers_of cd_numbers_of ct_numbers_of : Value}
    (a_numbers_of : PySem.W.nsIn K mainGlobals "numbers_of" = some (some (.ref f_numbers_of)))
    (l_numbers_of : K.lookup f_numbers_of = some ⟨oc_numbers_of, od_numbers_of, .func (PySem.W.fnOf "numbers_of" "numbers_of" (defArgs s_numbers_of) (defBody s_numbers_of) (defScope s_numbers_of) .none kV_numbers_of dc_numbers_of pm_numbers_of an_numbers_of cd_numbers_of ct_numbers_of), sl_numbers_of⟩)
    (c_numbers_of : PySem.W.codeIn K cd_numbers_of "numbers_of" = true)
    (k_numbers_of : PySem.W.keepIn K (.ref f_numbers_of) = true)
    {f_needed_at : Addr} {oc_needed_at : Value} {od_needed_at an_needed_at : Option Addr} {sl_needed_at : Array (Option Value)} {kV_needed_at dc_needed_at pm_needed_at cd_needed_at ct_needed_at : Value}
    (a_needed_at : PySem.W.nsIn K mainGlobals "_needed_at" = some (some (.ref f_needed_at)))
    (l_needed_at : K.lookup f_needed_at = some ⟨oc_needed_at, od_needed_at, .func (PySem.W.fnOf "_needed_at" "_needed_at" (defArgs s_needed_at) (defBody s_needed_at) (defScope s_needed_at) .none kV_needed_at dc_needed_at pm_needed_at an_needed_at cd_needed_at ct_needed_at), sl_needed_at⟩)
    (c_needed_at : PySem.W.codeIn K cd_needed_at "_needed_at" = true)
    (k_needed_at : PySem.W.keepIn K (.ref f_needed_at) = true)
    {f_conflicts : Addr} {oc_conflicts : Value} {od_conflicts an_conflicts : Option Addr} {sl_conflicts : Array (Option Value)} {kV_conflicts dc_conflicts pm_conflicts cd_conflicts ct_conflicts : Value}
    (a_conflicts : PySem.W.nsIn K mainGlobals "conflicts" = some (some (.ref f_conflicts)))
    (l_conflicts : K.lookup f_conflicts = some ⟨oc_conflicts, od_conflicts, .func (PySem.W.fnOf "conflicts" "conflicts" (defArgs s_conflicts) (defBody s_conflicts) (defScope s_conflicts) .none kV_conflicts dc_conflicts pm_conflicts an_conflicts cd_conflicts ct_conflicts), sl_conflicts⟩)
    (c_conflicts : PySem.W.codeIn K cd_conflicts "conflicts" = true)
    (k_conflicts : PySem.W.keepIn K (.ref f_conflicts) = true)
    {f_assign : Addr} {oc_assign : Value} {od_assign an_assign : Option Addr} {sl_assign : Array (Option Value)} {kV_assign dc_assign pm_assign cd_assign ct_assign : Value}
    (a_assign : PySem.W.nsIn K mainGlobals "assign" = some (some (.ref f_assign)))
    (l_assign : K.lookup f_assign = some ⟨oc_assign, od_assign, .func (PySem.W.fnOf "assign" "assign" (defArgs s_assign) (defBody s_assign) (defScope s_assign) .none kV_assign dc_assign pm_assign an_assign cd_assign ct_assign), sl_assign⟩)
    (c_assign : PySem.W.codeIn K cd_assign "assign" = true)
    (k_assign : PySem.W.keepIn K (.ref f_assign) = true)
    {f_registers_read : Addr} {oc_registers_read : Value} {od_registers_read an_registers_read : Option Addr} {sl_registers_read : Array (Option Value)} {kV_registers_read dc_registers_read pm_registers_read cd_registers_read ct_registers_read : Value}
    (a_registers_read : PySem.W.nsIn K mainGlobals "registers_read" = some (some (.ref f_registers_read)))
    (l_registers_read : K.lookup f_registers_read = some ⟨oc_registers_read, od_registers_read, .func (PySem.W.fnOf "registers_read" "registers_read" (defArgs s_registers_read) (defBody s_registers_read) (defScope s_registers_read) .none kV_registers_read dc_registers_read pm_registers_read an_registers_read cd_registers_read ct_registers_read), sl_registers_read⟩)
    (c_registers_read : PySem.W.codeIn K cd_registers_read "registers_read" = true)
    (k_registers_read : PySem.W.keepIn K (.ref f_registers_read) = true)
    {f_live_arguments : Addr} {oc_live_arguments : Value} {od_live_arguments an_live_arguments : Option Addr} {sl_live_arguments : Array (Option Value)} {kV_live_arguments dc_live_arguments pm_live_arguments cd_live_arguments ct_live_arguments : Value}
    (a_live_arguments : PySem.W.nsIn K mainGlobals "live_arguments" = some (some (.ref f_live_arguments)))
    (l_live_arguments : K.lookup f_live_arguments = some ⟨oc_live_arguments, od_live_arguments, .func (PySem.W.fnOf "live_arguments" "live_arguments" (defArgs s_live_arguments) (defBody s_live_arguments) (defScope s_live_arguments) .none kV_live_arguments dc_live_arguments pm_live_arguments an_live_arguments cd_live_arguments ct_live_arguments), sl_live_arguments⟩)
    (c_live_arguments : PySem.W.codeIn K cd_live_arguments "live_arguments" = true)
    (k_live_arguments : PySem.W.keepIn K (.ref f_live_arguments) = true)
    {f_add_conflicts : Addr} {oc_add_conflicts : Value} {od_add_conflicts an_add_conflicts : Option Addr} {sl_add_conflicts : Array (Option Value)} {kV_add_conflicts dc_add_conflicts pm_add_conflicts cd_add_conflicts ct_add_conflicts : Value}
    (a_add_conflicts : PySem.W.nsIn K mainGlobals "_add_conflicts" = some (some (.ref f_add_conflicts)))
    (l_add_conflicts : K.lookup f_add_conflicts = some ⟨oc_add_conflicts, od_add_conflicts, .func (PySem.W.fnOf "_add_conflicts" "_add_conflicts" (defArgs s_add_conflicts) (defBody s_add_conflicts) (defScope s_add_conflicts) .none kV_add_conflicts dc_add_conflicts pm_add_conflicts an_add_conflicts cd_add_conflicts ct_add_conflicts), sl_add_conflicts⟩)
    (c_add_conflicts : PySem.W.codeIn K cd_add_conflicts "_add_conflicts" = true)
    (k_add_conflicts : PySem.W.keepIn K (.ref f_add_conflicts) = true)
    {f_in_both_ways : Addr} {oc_in_both_ways : Value} {od_in_both_ways an_in_both_ways : Option Addr} {sl_in_both_ways : Array (Option Value)} {kV_in_both_ways dc_in_both_ways pm_in_both_ways cd_in_both_ways ct_in_both_ways : Value}
    (a_in_both_ways : PySem.W.nsIn K mainGlobals "_in_both_ways" = some (some (.ref f_in_both_ways)))
    (l_in_both_ways : K.lookup f_in_both_ways = some ⟨oc_in_both_ways, od_in_both_ways, .func (PySem.W.fnOf "_in_both_ways" "_in_both_ways" (defArgs s_in_both_ways) (defBody s_in_both_ways) (defScope s_in_both_ways) .none kV_in_both_ways dc_in_both_ways pm_in_both_ways an_in_both_ways cd_in_both_ways ct_in_both_ways), sl_in_both_ways⟩)
    (c_in_both_ways : PySem.W.codeIn K cd_in_both_ways "_in_both_ways" = true)
    (k_in_both_ways : PySem.W.keepIn K (.ref f_in_both_ways) = true)
    {f_first_free_assign : Addr} {oc_first_free_assign : Value} {od_first_free_assign an_first_free_assign : Option Addr} {sl_first_free_assign : Array (Option Value)} {kV_first_free_assign dc_first_free_assign pm_first_free_assign cd_first_free_assign ct_first_free_assign : Value}
    (a_first_free_assign : PySem.W.nsIn K mainGlobals "first_free_assign" = some (some (.ref f_first_free_assign)))
    (l_first_free_assign : K.lookup f_first_free_assign = some ⟨oc_first_free_assign, od_first_free_assign, .func (PySem.W.fnOf "_first_free" "_first_free" (defArgs s_first_free_assign) (defBody s_first_free_assign) (defScope s_first_free_assign) .none kV_first_free_assign dc_first_free_assign pm_first_free_assign an_first_free_assign cd_first_free_assign ct_first_free_assign), sl_first_free_assign⟩)
    (c_first_free_assign : PySem.W.codeIn K cd_first_free_assign "_first_free" = true)
    (k_first_free_assign : PySem.W.keepIn K (.ref f_first_free_assign) = true)
    {f_law_start : Addr} {oc_law_start : Value} {od_law_start an_law_start : Option Addr} {sl_law_start : Array (Option Value)} {kV_law_start dc_law_start pm_law_start cd_law_start ct_law_start : Value}
    (a_law_start : PySem.W.nsIn K mainGlobals "_law_start" = some (some (.ref f_law_start)))
    (l_law_start : K.lookup f_law_start = some ⟨oc_law_start, od_law_start, .func (PySem.W.fnOf "_law_start" "_law_start" (defArgs s_law_start) (defBody s_law_start) (defScope s_law_start) .none kV_law_start dc_law_start pm_law_start an_law_start cd_law_start ct_law_start), sl_law_start⟩)
    (c_law_start : PySem.W.codeIn K cd_law_start "_law_start" = true)
    (k_law_start : PySem.W.keepIn K (.ref f_law_start) = true)
    {f_law_take : Addr} {oc_law_take : Value} {od_law_take an_law_take : Option Addr} {sl_law_take : Array (Option Value)} {kV_law_take dc_law_take pm_law_take cd_law_take ct_law_take : Value}
    (a_law_take : PySem.W.nsIn K mainGlobals "_law_take" = some (some (.ref f_law_take)))
    (l_law_take : K.lookup f_law_take = some ⟨oc_law_take, od_law_take, .func (PySem.W.fnOf "_law_take" "_law_take" (defArgs s_law_take) (defBody s_law_take) (defScope s_law_take) .none kV_law_take dc_law_take pm_law_take an_law_take cd_law_take ct_law_take), sl_law_take⟩)
    (c_law_take : PySem.W.codeIn K cd_law_take "_law_take" = true)
    (k_law_take : PySem.W.keepIn K (.ref f_law_take) = true)
    {f_law_place : Addr} {oc_law_place : Value} {od_law_place an_law_place : Option Addr} {sl_law_place : Array (Option Value)} {kV_law_place dc_law_place pm_law_place cd_law_place ct_law_place : Value}
    (a_law_place : PySem.W.nsIn K mainGlobals "_law_place" = some (some (.ref f_law_place)))
    (l_law_place : K.lookup f_law_place = some ⟨oc_law_place, od_law_place, .func (PySem.W.fnOf "_law_place" "_law_place" (defArgs s_law_place) (defBody s_law_place) (defScope s_law_place) .none kV_law_place dc_law_place pm_law_place an_law_place cd_law_place ct_law_place), sl_law_place⟩)
    (c_law_place : PySem.W.codeIn K cd_law_place "_law_place" = true)
    (k_law_place : PySem.W.keepIn K (.ref f_law_place) = true)
    {f_law_operand : Addr} {oc_law_operand : Value} {od_law_operand an_law_operand : Option Addr} {sl_law_operand : Array (Option Value)} {kV_law_operand dc_law_operand pm_law_operand cd_law_operand ct_law_operand : Value}
    (a_law_operand : PySem.W.nsIn K mainGlobals "_law_operand" = some (some (.ref f_law_operand)))
    (l_law_operand : K.lookup f_law_operand = some ⟨oc_law_operand, od_law_operand, .func (PySem.W.fnOf "_law_operand" "_law_operand" (defArgs s_law_operand) (defBody s_law_operand) (defScope s_law_operand) .none kV_law_operand dc_law_operand pm_law_operand an_law_operand cd_law_operand ct_law_operand), sl_law_operand⟩)
    (c_law_operand : PySem.W.codeIn K cd_law_operand "_law_operand" = true)
    (k_law_operand : PySem.W.keepIn K (.ref f_law_operand) = true)
    {f_law_target : Addr} {oc_law_target : Value} {od_law_target an_law_target : Option Addr} {sl_law_target : Array (Option Value)} {kV_law_target dc_law_target pm_law_target cd_law_target ct_law_target : Value}
    (a_law_target : PySem.W.nsIn K mainGlobals "_law_target" = some (some (.ref f_law_target)))
    (l_law_target : K.lookup f_law_target = some ⟨oc_law_target, od_law_target, .func (PySem.W.fnOf "_law_target" "_law_target" (defArgs s_law_target) (defBody s_law_target) (defScope s_law_target) .none kV_law_target dc_law_target pm_law_target an_law_target cd_law_target ct_law_target), sl_law_target⟩)
    (c_law_target : PySem.W.codeIn K cd_law_target "_law_target" = true)
    (k_law_target : PySem.W.keepIn K (.ref f_law_target) = true)
    {f_law_around : Addr} {oc_law_around : Value} {od_law_around an_law_around : Option Addr} {sl_law_around : Array (Option Value)} {kV_law_around dc_law_around pm_law_around cd_law_around ct_law_around : Value}
    (a_law_around : PySem.W.nsIn K mainGlobals "_law_around" = some (some (.ref f_law_around)))
    (l_law_around : K.lookup f_law_around = some ⟨oc_law_around, od_law_around, .func (PySem.W.fnOf "_law_around" "_law_around" (defArgs s_law_around) (defBody s_law_around) (defScope s_law_around) .none kV_law_around dc_law_around pm_law_around an_law_around cd_law_around ct_law_around), sl_law_around⟩)
    (c_law_around : PySem.W.codeIn K cd_law_around "_law_around" = true)
    (k_law_around : PySem.W.keepIn K (.ref f_law_around) = true)
    {f_law_memory : Addr} {oc_law_memory : Value} {od_law_memory an_law_memory : Option Addr} {sl_law_memory : Array (Option Value)} {kV_law_memory dc_law_memory pm_law_memory cd_law_memory ct_law_memory : Value}
    (a_law_memory : PySem.W.nsIn K mainGlobals "_law_memory" = some (some (.ref f_law_memory)))
    (l_law_memory : K.lookup f_law_memory = some ⟨oc_law_memory, od_law_memory, .func (PySem.W.fnOf "_law_memory" "_law_memory" (defArgs s_law_memory) (defBody s_law_memory) (defScope s_law_memory) .none kV_law_memory dc_law_memory pm_law_memory an_law_memory cd_law_memory ct_law_memory), sl_law_memory⟩)
    (c_law_memory : PySem.W.codeIn K cd_law_memory "_law_memory" = true)
    (k_law_memory : PySem.W.keepIn K (.ref f_law_memory) = true)
    {f_law_call : Addr} {oc_law_call : Value} {od_law_call an_law_call : Option Addr} {sl_law_call : Array (Option Value)} {kV_law_call dc_law_call pm_law_call cd_law_call ct_law_call : Value}
    (a_law_call : PySem.W.nsIn K mainGlobals "_law_call" = some (some (.ref f_law_call)))
    (l_law_call : K.lookup f_law_call = some ⟨oc_law_call, od_law_call, .func (PySem.W.fnOf "_law_call" "_law_call" (defArgs s_law_call) (defBody s_law_call) (defScope s_law_call) .none kV_law_call dc_law_call pm_law_call an_law_call cd_law_call ct_law_call), sl_law_call⟩)
    (c_law_call : PySem.W.codeIn K cd_law_call "_law_call" = true)
    (k_law_call : PySem.W.keepIn K (.ref f_law_call) = true)
    {f_law_instruction : Addr} {oc_law_instruction : Value} {od_law_instruction an_law_instruction : Option Addr} {sl_law_instruction : Array (Option Value)} {kV_law_instruction dc_law_instruction pm_law_instruction cd_law_instruction ct_law_instruction : Value}
    (a_law_instruction : PySem.W.nsIn K mainGlobals "_law_instruction" = some (some (.ref f_law_instruction)))
    (l_law_instruction : K.lookup f_law_instruction = some ⟨oc_law_instruction, od_law_instruction, .func (PySem.W.fnOf "_law_instruction" "_law_instruction" (defArgs s_law_instruction) (defBody s_law_instruction) (defScope s_law_instruction) .none kV_law_instruction dc_law_instruction pm_law_instruction an_law_instruction cd_law_instruction ct_law_instruction), sl_law_instruction⟩)
    (c_law_instruction : PySem.W.codeIn K cd_law_instruction "_law_instruction" = true)
    (k_law_instruction : PySem.W.keepIn K (.ref f_law_instruction) = true)
    {f_law_regions : Addr} {oc_law_regions : Value} {od_law_regions an_law_regions : Option Addr} {sl_law_regions : Array (Option Value)} {kV_law_regions dc_law_regions pm_law_regions cd_law_regions ct_law_regions : Value}
    (a_law_regions : PySem.W.nsIn K mainGlobals "_law_regions" = some (some (.ref f_law_regions)))
    (l_law_regions : K.lookup f_law_regions = some ⟨oc_law_regions, od_law_regions, .func (PySem.W.fnOf "_law_regions" "_law_regions" (defArgs s_law_regions) (defBody s_law_regions) (defScope s_law_regions) .none kV_law_regions dc_law_regions pm_law_regions an_law_regions cd_law_regions ct_law_regions), sl_law_regions⟩)
    (c_law_regions : PySem.W.codeIn K cd_law_regions "_law_regions" = true)
    (k_law_regions : PySem.W.keepIn K (.ref f_law_regions) = true)
    {f_law_unit : Addr} {oc_law_unit : Value} {od_law_unit an_law_unit : Option Addr} {sl_law_unit : Array (Option Value)} {kV_law_unit dc_law_unit pm_law_unit cd_law_unit ct_law_unit : Value}
    (a_law_unit : PySem.W.nsIn K mainGlobals "_law_unit" = some (some (.ref f_law_unit)))
    (l_law_unit : K.lookup f_law_unit = some ⟨oc_law_unit, od_law_unit, .func (PySem.W.fnOf "_law_unit" "_law_unit" (defArgs s_law_unit) (defBody s_law_unit) (defScope s_law_unit) .none kV_law_unit dc_law_unit pm_law_unit an_law_unit cd_law_unit ct_law_unit), sl_law_unit⟩)
    (c_law_unit : PySem.W.codeIn K cd_law_unit "_law_unit" = true)
    (k_law_unit : PySem.W.keepIn K (.ref f_law_unit) = true)
    {f_law_shapes : Addr} {oc_law_shapes : Value} {od_law_shapes an_law_shapes : Option Addr} {sl_law_shapes : Array (Option Value)} {kV_law_shapes dc_law_shapes pm_law_shapes cd_law_shapes ct_law_shapes : Value}
    (a_law_shapes : PySem.W.nsIn K mainGlobals "_law_shapes" = some (some (.ref f_law_shapes)))
    (l_law_shapes : K.lookup f_law_shapes = some ⟨oc_law_shapes, od_law_shapes, .func (PySem.W.fnOf "_law_shapes" "_law_shapes" (defArgs s_law_shapes) (defBody s_law_shapes) (defScope s_law_shapes) .none kV_law_shapes dc_law_shapes pm_law_shapes an_law_shapes cd_law_shapes ct_law_shapes), sl_law_shapes⟩)
    (c_law_shapes : PySem.W.codeIn K cd_law_shapes "_law_shapes" = true)
    (k_law_shapes : PySem.W.keepIn K (.ref f_law_shapes) = true)
    {f_law_module : Addr} {oc_law_module : Value} {od_law_module an_law_module : Option Addr} {sl_law_module : Array (Option Value)} {kV_law_module dc_law_module pm_law_module cd_law_module ct_law_module : Value}
    (a_law_module : PySem.W.nsIn K mainGlobals "_law_module" = some (some (.ref f_law_module)))
    (l_law_module : K.lookup f_law_module = some ⟨oc_law_module, od_law_module, .func (PySem.W.fnOf "_law_module" "_law_module" (defArgs s_law_module) (defBody s_law_module) (defScope s_law_module) .none kV_law_module dc_law_module pm_law_module an_law_module cd_law_module ct_law_module), sl_law_module⟩)
    (c_law_module : PySem.W.codeIn K cd_law_module "_law_module" = true)
    (k_law_module : PySem.W.keepIn K (.ref f_law_module) = true)
    {f_law_operands : Addr} {oc_law_operands : Value} {od_law_operands an_law_operands : Option Addr} {sl_law_operands : Array (Option Value)} {kV_law_operands dc_law_operands pm_law_operands cd_law_operands ct_law_operands : Value}
    (a_law_operands : PySem.W.nsIn K mainGlobals "_law_operands" = some (some (.ref f_law_operands)))
    (l_law_operands : K.lookup f_law_operands = some ⟨oc_law_operands, od_law_operands, .func (PySem.W.fnOf "_law_operands" "_law_operands" (defArgs s_law_operands) (defBody s_law_operands) (defScope s_law_operands) .none kV_law_operands dc_law_operands pm_law_operands an_law_operands cd_law_operands ct_law_operands), sl_law_operands⟩)
    (c_law_operands : PySem.W.codeIn K cd_law_operands "_law_operands" = true)
    (k_law_operands : PySem.W.keepIn K (.ref f_law_operands) = true)
    {f_law_reads : Addr} {oc_law_reads : Value} {od_law_reads an_law_reads : Option Addr} {sl_law_reads : Array (Option Value)} {kV_law_reads dc_law_reads pm_law_reads cd_law_reads ct_law_reads : Value}
    (a_law_reads : PySem.W.nsIn K mainGlobals "_law_reads" = some (some (.ref f_law_reads)))
    (l_law_reads : K.lookup f_law_reads = some ⟨oc_law_reads, od_law_reads, .func (PySem.W.fnOf "_law_reads" "_law_reads" (defArgs s_law_reads) (defBody s_law_reads) (defScope s_law_reads) .none kV_law_reads dc_law_reads pm_law_reads an_law_reads cd_law_reads ct_law_reads), sl_law_reads⟩)
    (c_law_reads : PySem.W.codeIn K cd_law_reads "_law_reads" = true)
    (k_law_reads : PySem.W.keepIn K (.ref f_law_reads) = true)
    {f_law_writes : Addr} {oc_law_writes : Value} {od_law_writes an_law_writes : Option Addr} {sl_law_writes : Array (Option Value)} {kV_law_writes dc_law_writes pm_law_writes cd_law_writes ct_law_writes : Value}
    (a_law_writes : PySem.W.nsIn K mainGlobals "_law_writes" = some (some (.ref f_law_writes)))
    (l_law_writes : K.lookup f_law_writes = some ⟨oc_law_writes, od_law_writes, .func (PySem.W.fnOf "_law_writes" "_law_writes" (defArgs s_law_writes) (defBody s_law_writes) (defScope s_law_writes) .none kV_law_writes dc_law_writes pm_law_writes an_law_writes cd_law_writes ct_law_writes), sl_law_writes⟩)
    (c_law_writes : PySem.W.codeIn K cd_law_writes "_law_writes" = true)
    (k_law_writes : PySem.W.keepIn K (.ref f_law_writes) = true)
    {f_law_onward : Addr} {oc_law_onward : Value} {od_law_onward an_law_onward : Option Addr} {sl_law_onward : Array (Option Value)} {kV_law_onward dc_law_onward pm_law_onward cd_law_onward ct_law_onward : Value}
    (a_law_onward : PySem.W.nsIn K mainGlobals "_law_onward" = some (some (.ref f_law_onward)))
    (l_law_onward : K.lookup f_law_onward = some ⟨oc_law_onward, od_law_onward, .func (PySem.W.fnOf "_law_onward" "_law_onward" (defArgs s_law_onward) (defBody s_law_onward) (defScope s_law_onward) .none kV_law_onward dc_law_onward pm_law_onward an_law_onward cd_law_onward ct_law_onward), sl_law_onward⟩)
    (c_law_onward : PySem.W.codeIn K cd_law_onward "_law_onward" = true)
    (k_law_onward : PySem.W.keepIn K (.ref f_law_onward) = true)
    {f_law_ways : Addr} {oc_law_ways : Value} {od_law_ways an_law_ways : Option Addr} {sl_law_ways : Array (Option Value)} {kV_law_ways dc_law_ways pm_law_ways cd_law_ways ct_law_ways : Value}
    (a_law_ways : PySem.W.nsIn K mainGlobals "_law_ways" = some (some (.ref f_law_ways)))
    (l_law_ways : K.lookup f_law_ways = some ⟨oc_law_ways, od_law_ways, .func (PySem.W.fnOf "_law_ways" "_law_ways" (defArgs s_law_ways) (defBody s_law_ways) (defScope s_law_ways) .none kV_law_ways dc_law_ways pm_law_ways an_law_ways cd_law_ways ct_law_ways), sl_law_ways⟩)
    (c_law_ways : PySem.W.codeIn K cd_law_ways "_law_ways" = true)
    (k_law_ways : PySem.W.keepIn K (.ref f_law_ways) = true)
    {f_law_live : Addr} {oc_law_live : Value} {od_law_live an_law_live : Option Addr} {sl_law_live : Array (Option Value)} {kV_law_live dc_law_live pm_law_live cd_law_live ct_law_live : Value}
    (a_law_live : PySem.W.nsIn K mainGlobals "_law_live" = some (some (.ref f_law_live)))
    (l_law_live : K.lookup f_law_live = some ⟨oc_law_live, od_law_live, .func (PySem.W.fnOf "_law_live" "_law_live" (defArgs s_law_live) (defBody s_law_live) (defScope s_law_live) .none kV_law_live dc_law_live pm_law_live an_law_live cd_law_live ct_law_live), sl_law_live⟩)
    (c_law_live : PySem.W.codeIn K cd_law_live "_law_live" = true)
    (k_law_live : PySem.W.keepIn K (.ref f_law_live) = true)
    {f_law_pairs : Addr} {oc_law_pairs : Value} {od_law_pairs an_law_pairs : Option Addr} {sl_law_pairs : Array (Option Value)} {kV_law_pairs dc_law_pairs pm_law_pairs cd_law_pairs ct_law_pairs : Value}
    (a_law_pairs : PySem.W.nsIn K mainGlobals "_law_pairs" = some (some (.ref f_law_pairs)))
    (l_law_pairs : K.lookup f_law_pairs = some ⟨oc_law_pairs, od_law_pairs, .func (PySem.W.fnOf "_law_pairs" "_law_pairs" (defArgs s_law_pairs) (defBody s_law_pairs) (defScope s_law_pairs) .none kV_law_pairs dc_law_pairs pm_law_pairs an_law_pairs cd_law_pairs ct_law_pairs), sl_law_pairs⟩)
    (c_law_pairs : PySem.W.codeIn K cd_law_pairs "_law_pairs" = true)
    (k_law_pairs : PySem.W.keepIn K (.ref f_law_pairs) = true)
    {f_law_conflicts : Addr} {oc_law_conflicts : Value} {od_law_conflicts an_law_conflicts : Option Addr} {sl_law_conflicts : Array (Option Value)} {kV_law_conflicts dc_law_conflicts pm_law_conflicts cd_law_conflicts ct_law_conflicts : Value}
    (a_law_conflicts : PySem.W.nsIn K mainGlobals "_law_conflicts" = some (some (.ref f_law_conflicts)))
    (l_law_conflicts : K.lookup f_law_conflicts = some ⟨oc_law_conflicts, od_law_conflicts, .func (PySem.W.fnOf "_law_conflicts" "_law_conflicts" (defArgs s_law_conflicts) (defBody s_law_conflicts) (defScope s_law_conflicts) .none kV_law_conflicts dc_law_conflicts pm_law_conflicts an_law_conflicts cd_law_conflicts ct_law_conflicts), sl_law_conflicts⟩)
    (c_law_conflicts : PySem.W.codeIn K cd_law_conflicts "_law_conflicts" = true)
    (k_law_conflicts : PySem.W.keepIn K (.ref f_law_conflicts) = true)
    {f_law_first_free : Addr} {oc_law_first_free : Value} {od_law_first_free an_law_first_free : Option Addr} {sl_law_first_free : Array (Option Value)} {kV_law_first_free dc_law_first_free pm_law_first_free cd_law_first_free ct_law_first_free : Value}
    (a_law_first_free : PySem.W.nsIn K mainGlobals "_law_first_free" = some (some (.ref f_law_first_free)))
    (l_law_first_free : K.lookup f_law_first_free = some ⟨oc_law_first_free, od_law_first_free, .func (PySem.W.fnOf "_law_first_free" "_law_first_free" (defArgs s_law_first_free) (defBody s_law_first_free) (defScope s_law_first_free) .none kV_law_first_free dc_law_first_free pm_law_first_free an_law_first_free cd_law_first_free ct_law_first_free), sl_law_first_free⟩)
    (c_law_first_free : PySem.W.codeIn K cd_law_first_free "_law_first_free" = true)
    (k_law_first_free : PySem.W.keepIn K (.ref f_law_first_free) = true)
    {f_law_assigned : Addr} {oc_law_assigned : Value} {od_law_assigned an_law_assigned : Option Addr} {sl_law_assigned : Array (Option Value)} {kV_law_assigned dc_law_assigned pm_law_assigned cd_law_assigned ct_law_assigned : Value}
    (a_law_assigned : PySem.W.nsIn K mainGlobals "_law_assigned" = some (some (.ref f_law_assigned)))
    (l_law_assigned : K.lookup f_law_assigned = some ⟨oc_law_assigned, od_law_assigned, .func (PySem.W.fnOf "_law_assigned" "_law_assigned" (defArgs s_law_assigned) (defBody s_law_assigned) (defScope s_law_assigned) .none kV_law_assigned dc_law_assigned pm_law_assigned an_law_assigned cd_law_assigned ct_law_assigned), sl_law_assigned⟩)
    (c_law_assigned : PySem.W.codeIn K cd_law_assigned "_law_assigned" = true)
    (k_law_assigned : PySem.W.keepIn K (.ref f_law_assigned) = true)
    {f_law_same : Addr} {oc_law_same : Value} {od_law_same an_law_same : Option Addr} {sl_law_same : Array (Option Value)} {kV_law_same dc_law_same pm_law_same cd_law_same ct_law_same : Value}
    (a_law_same : PySem.W.nsIn K mainGlobals "_law_same" = some (some (.ref f_law_same)))
    (l_law_same : K.lookup f_law_same = some ⟨oc_law_same, od_law_same, .func (PySem.W.fnOf "_law_same" "_law_same" (defArgs s_law_same) (defBody s_law_same) (defScope s_law_same) .none kV_law_same dc_law_same pm_law_same an_law_same cd_law_same ct_law_same), sl_law_same⟩)
    (c_law_same : PySem.W.codeIn K cd_law_same "_law_same" = true)
    (k_law_same : PySem.W.keepIn K (.ref f_law_same) = true)
    {f_law : Addr} {oc_law : Value} {od_law an_law : Option Addr} {sl_law : Array (Option Value)} {kV_law dc_law pm_law cd_law ct_law : Value}
    (a_law : PySem.W.nsIn K mainGlobals "law" = some (some (.ref f_law)))
    (l_law : K.lookup f_law = some ⟨oc_law, od_law, .func (PySem.W.fnOf "law" "law" (defArgs s_law) (defBody s_law) (defScope s_law) .none kV_law dc_law pm_law an_law cd_law ct_law), sl_law⟩)
    (c_law : PySem.W.codeIn K cd_law "law" = true)
    (k_law : PySem.W.keepIn K (.ref f_law) = true)
    {t_INS : Tok} (a_INS : PySem.W.nsIn K mainGlobals "INS" = some (some (.int (6) t_INS)))
    {c_LEAVING : Addr} {o_LEAVING : Obj} (a_LEAVING : PySem.W.nsIn K mainGlobals "LEAVING" = some (some (.ref c_LEAVING))) (l_LEAVING : K.lookup c_LEAVING = some o_LEAVING) (q_LEAVING : IsTupOf o_LEAVING [.str "return", .str "raise", .str "again"])
    {t_LOCALS : Tok} (a_LOCALS : PySem.W.nsIn K mainGlobals "LOCALS" = some (some (.int (8) t_LOCALS)))
    {c_RAISING : Addr} {o_RAISING : Obj} (a_RAISING : PySem.W.nsIn K mainGlobals "RAISING" = some (some (.ref c_RAISING))) (l_RAISING : K.lookup c_RAISING = some o_RAISING) (q_RAISING : IsTupOf o_RAISING [.str "neg", .str "abs", .str "add", .str "sub", .str "mul", .str "div", .str "mod", .str "rem", .str "check", .str "call", .str "raise", .str "again", .str "get"])
    {c_WRITING : Addr} {o_WRITING : Obj} (a_WRITING : PySem.W.nsIn K mainGlobals "WRITING" = some (some (.ref c_WRITING))) (l_WRITING : K.lookup c_WRITING = some o_WRITING) (q_WRITING : IsTupOf o_WRITING [.str "move", .str "neg", .str "abs", .str "add", .str "sub", .str "mul", .str "div", .str "mod", .str "rem", .str "less", .str "equal", .str "load", .str "get"])
    (z_bool : PySem.W.nsIn K mainGlobals "bool" = some none)
    (z_enumerate : PySem.W.nsIn K mainGlobals "enumerate" = some none)
    (z_int : PySem.W.nsIn K mainGlobals "int" = some none)
    (z_isinstance : PySem.W.nsIn K mainGlobals "isinstance" = some none)
    (z_len : PySem.W.nsIn K mainGlobals "len" = some none)
    (z_list : PySem.W.nsIn K mainGlobals "list" = some none)
    (z_max : PySem.W.nsIn K mainGlobals "max" = some none)
    (z_min : PySem.W.nsIn K mainGlobals "min" = some none)
    (z_range : PySem.W.nsIn K mainGlobals "range" = some none)
    (z_sorted : PySem.W.nsIn K mainGlobals "sorted" = some none)
    (z_str : PySem.W.nsIn K mainGlobals "str" = some none)
    (z_tuple : PySem.W.nsIn K mainGlobals "tuple" = some none)
    (z_zip : PySem.W.nsIn K mainGlobals "zip" = some none) :
    ∃ fd : FuncData, (∀ (s : Shared) (v : Value), BindsTo s fd ⟨[v], []⟩ [("script", v)]) ∧ ∀ base : Heap, K.In base → base.Ns mainGlobals mg → FnOk l.prog w K mg base CX0 7 fa fd ["script"] (spLaw K) := by
  have e := hfa.symm.trans (PySem.W.mg_of X G a_law)
  cases e
  let a : Ad := { f_Unit___init__ := f_Unit___init__, d_Unit___init__ := PySem.W.fnOf "__init__" "Unit.__init__" (defArgs s_Unit___init__) (defBody s_Unit___init__) (defScope s_Unit___init__) .none kV_Unit___init__ dc_Unit___init__ pm_Unit___init__ an_Unit___init__ cd_Unit___init__ ct_Unit___init__, f_Module___init__ := f_Module___init__, d_Module___init__ := PySem.W.fnOf "__init__" "Module.__init__" (defArgs s_Module___init__) (defBody s_Module___init__) (defScope s_Module___init__) .none kV_Module___init__ dc_Module___init__ pm_Module___init__ an_Module___init__ cd_Module___init__ ct_Module___init__, f_operands := f_operands, d_operands := PySem.W.fnOf "operands" "operands" (defArgs s_operands) (defBody s_operands) (defScope s_operands) .none kV_operands dc_operands pm_operands an_operands cd_operands ct_operands, f_reads := f_reads, d_reads := PySem.W.fnOf "reads" "reads" (defArgs s_reads) (defBody s_reads) (defScope s_reads) .none kV_reads dc_reads pm_reads an_reads cd_reads ct_reads, f_writes := f_writes, d_writes := PySem.W.fnOf "writes" "writes" (defArgs s_writes) (defBody s_writes) (defScope s_writes) .none kV_writes dc_writes pm_writes an_writes cd_writes ct_writes, f_can_raise := f_can_raise, d_can_raise := PySem.W.fnOf "can_raise" "can_raise" (defArgs s_can_raise) (defBody s_can_raise) (defScope s_can_raise) .none kV_can_raise dc_can_raise pm_can_raise an_can_raise cd_can_raise ct_can_raise, f_followers := f_followers, d_followers := PySem.W.fnOf "followers" "followers" (defArgs s_followers) (defBody s_followers) (defScope s_followers) .none kV_followers dc_followers pm_followers an_followers cd_followers ct_followers, f_edges := f_edges, d_edges := PySem.W.fnOf "edges" "edges" (defArgs s_edges) (defBody s_edges) (defScope s_edges) .none kV_edges dc_edges pm_edges an_edges cd_edges ct_edges, f_ways_back := f_ways_back, d_ways_back := PySem.W.fnOf "ways_back" "ways_back" (defArgs s_ways_back) (defBody s_ways_back) (defScope s_ways_back) .none kV_ways_back dc_ways_back pm_ways_back an_ways_back cd_ways_back ct_ways_back, f_taken_regions := f_taken_regions, d_taken_regions := PySem.W.fnOf "taken_regions" "taken_regions" (defArgs s_taken_regions) (defBody s_taken_regions) (defScope s_taken_regions) .none kV_taken_regions dc_taken_regions pm_taken_regions an_taken_regions cd_taken_regions ct_taken_regions, f_first_free_flow := f_first_free_flow, d_first_free_flow := PySem.W.fnOf "_first_free" "_first_free" (defArgs s_first_free_flow) (defBody s_first_free_flow) (defScope s_first_free_flow) .none kV_first_free_flow dc_first_free_flow pm_first_free_flow an_first_free_flow cd_first_free_flow ct_first_free_flow, f_live_masks := f_live_masks, d_live_masks := PySem.W.fnOf "live_masks" "live_masks" (defArgs s_live_masks) (defBody s_live_masks) (defScope s_live_masks) .none kV_live_masks dc_live_masks pm_live_masks an_live_masks cd_live_masks ct_live_masks, f_mask_of := f_mask_of, d_mask_of := PySem.W.fnOf "mask_of" "mask_of" (defArgs s_mask_of) (defBody s_mask_of) (defScope s_mask_of) .none kV_mask_of dc_mask_of pm_mask_of an_mask_of cd_mask_of ct_mask_of, f_numbers_of := f_numbers_of, d_numbers_of := PySem.W.fnOf "numbers_of" "numbers_of" (defArgs s_numbers_of) (defBody s_numbers_of) (defScope s_numbers_of) .none kV_numbers_of dc_numbers_of pm_numbers_of an_numbers_of cd_numbers_of ct_numbers_of, f_needed_at := f_needed_at, d_needed_at := PySem.W.fnOf "_needed_at" "_needed_at" (defArgs s_needed_at) (defBody s_needed_at) (defScope s_needed_at) .none kV_needed_at dc_needed_at pm_needed_at an_needed_at cd_needed_at ct_needed_at, f_conflicts := f_conflicts, d_conflicts := PySem.W.fnOf "conflicts" "conflicts" (defArgs s_conflicts) (defBody s_conflicts) (defScope s_conflicts) .none kV_conflicts dc_conflicts pm_conflicts an_conflicts cd_conflicts ct_conflicts, f_assign := f_assign, d_assign := PySem.W.fnOf "assign" "assign" (defArgs s_assign) (defBody s_assign) (defScope s_assign) .none kV_assign dc_assign pm_assign an_assign cd_assign ct_assign, f_registers_read := f_registers_read, d_registers_read := PySem.W.fnOf "registers_read" "registers_read" (defArgs s_registers_read) (defBody s_registers_read) (defScope s_registers_read) .none kV_registers_read dc_registers_read pm_registers_read an_registers_read cd_registers_read ct_registers_read, f_live_arguments := f_live_arguments, d_live_arguments := PySem.W.fnOf "live_arguments" "live_arguments" (defArgs s_live_arguments) (defBody s_live_arguments) (defScope s_live_arguments) .none kV_live_arguments dc_live_arguments pm_live_arguments an_live_arguments cd_live_arguments ct_live_arguments, f_add_conflicts := f_add_conflicts, d_add_conflicts := PySem.W.fnOf "_add_conflicts" "_add_conflicts" (defArgs s_add_conflicts) (defBody s_add_conflicts) (defScope s_add_conflicts) .none kV_add_conflicts dc_add_conflicts pm_add_conflicts an_add_conflicts cd_add_conflicts ct_add_conflicts, f_in_both_ways := f_in_both_ways, d_in_both_ways := PySem.W.fnOf "_in_both_ways" "_in_both_ways" (defArgs s_in_both_ways) (defBody s_in_both_ways) (defScope s_in_both_ways) .none kV_in_both_ways dc_in_both_ways pm_in_both_ways an_in_both_ways cd_in_both_ways ct_in_both_ways, f_first_free_assign := f_first_free_assign, d_first_free_assign := PySem.W.fnOf "_first_free" "_first_free" (defArgs s_first_free_assign) (defBody s_first_free_assign) (defScope s_first_free_assign) .none kV_first_free_assign dc_first_free_assign pm_first_free_assign an_first_free_assign cd_first_free_assign ct_first_free_assign, f_law_start := f_law_start, d_law_start := PySem.W.fnOf "_law_start" "_law_start" (defArgs s_law_start) (defBody s_law_start) (defScope s_law_start) .none kV_law_start dc_law_start pm_law_start an_law_start cd_law_start ct_law_start, f_law_take := f_law_take, d_law_take := PySem.W.fnOf "_law_take" "_law_take" (defArgs s_law_take) (defBody s_law_take) (defScope s_law_take) .none kV_law_take dc_law_take pm_law_take an_law_take cd_law_take ct_law_take, f_law_place := f_law_place, d_law_place := PySem.W.fnOf "_law_place" "_law_place" (defArgs s_law_place) (defBody s_law_place) (defScope s_law_place) .none kV_law_place dc_law_place pm_law_place an_law_place cd_law_place ct_law_place, f_law_operand := f_law_operand, d_law_operand := PySem.W.fnOf "_law_operand" "_law_operand" (defArgs s_law_operand) (defBody s_law_operand) (defScope s_law_operand) .none kV_law_operand dc_law_operand pm_law_operand an_law_operand cd_law_operand ct_law_operand, f_law_target := f_law_target, d_law_target := PySem.W.fnOf "_law_target" "_law_target" (defArgs s_law_target) (defBody s_law_target) (defScope s_law_target) .none kV_law_target dc_law_target pm_law_target an_law_target cd_law_target ct_law_target, f_law_around := f_law_around, d_law_around := PySem.W.fnOf "_law_around" "_law_around" (defArgs s_law_around) (defBody s_law_around) (defScope s_law_around) .none kV_law_around dc_law_around pm_law_around an_law_around cd_law_around ct_law_around, f_law_memory := f_law_memory, d_law_memory := PySem.W.fnOf "_law_memory" "_law_memory" (defArgs s_law_memory) (defBody s_law_memory) (defScope s_law_memory) .none kV_law_memory dc_law_memory pm_law_memory an_law_memory cd_law_memory ct_law_memory, f_law_call := f_law_call, d_law_call := PySem.W.fnOf "_law_call" "_law_call" (defArgs s_law_call) (defBody s_law_call) (defScope s_law_call) .none kV_law_call dc_law_call pm_law_call an_law_call cd_law_call ct_law_call, f_law_instruction := f_law_instruction, d_law_instruction := PySem.W.fnOf "_law_instruction" "_law_instruction" (defArgs s_law_instruction) (defBody s_law_instruction) (defScope s_law_instruction) .none kV_law_instruction dc_law_instruction pm_law_instruction an_law_instruction cd_law_instruction ct_law_instruction, f_law_regions := f_law_regions, d_law_regions := PySem.W.fnOf "_law_regions" "_law_regions" (defArgs s_law_regions) (defBody s_law_regions) (defScope s_law_regions) .none kV_law_regions dc_law_regions pm_law_regions an_law_regions cd_law_regions ct_law_regions, f_law_unit := f_law_unit, d_law_unit := PySem.W.fnOf "_law_unit" "_law_unit" (defArgs s_law_unit) (defBody s_law_unit) (defScope s_law_unit) .none kV_law_unit dc_law_unit pm_law_unit an_law_unit cd_law_unit ct_law_unit, f_law_shapes := f_law_shapes, d_law_shapes := PySem.W.fnOf "_law_shapes" "_law_shapes" (defArgs s_law_shapes) (defBody s_law_shapes) (defScope s_law_shapes) .none kV_law_shapes dc_law_shapes pm_law_shapes an_law_shapes cd_law_shapes ct_law_shapes, f_law_module := f_law_module, d_law_module := PySem.W.fnOf "_law_module" "_law_module" (defArgs s_law_module) (defBody s_law_module) (defScope s_law_module) .none kV_law_module dc_law_module pm_law_module an_law_module cd_law_module ct_law_module, f_law_operands := f_law_operands, d_law_operands := PySem.W.fnOf "_law_operands" "_law_operands" (defArgs s_law_operands) (defBody s_law_operands) (defScope s_law_operands) .none kV_law_operands dc_law_operands pm_law_operands an_law_operands cd_law_operands ct_law_operands, f_law_reads := f_law_reads, d_law_reads := PySem.W.fnOf "_law_reads" "_law_reads" (defArgs s_law_reads) (defBody s_law_reads) (defScope s_law_reads) .none kV_law_reads dc_law_reads pm_law_reads an_law_reads cd_law_reads ct_law_reads, f_law_writes := f_law_writes, d_law_writes := PySem.W.fnOf "_law_writes" "_law_writes" (defArgs s_law_writes) (defBody s_law_writes) (defScope s_law_writes) .none kV_law_writes dc_law_writes pm_law_writes an_law_writes cd_law_writes ct_law_writes, f_law_onward := f_law_onward, d_law_onward := PySem.W.fnOf "_law_onward" "_law_onward" (defArgs s_law_onward) (defBody s_law_onward) (defScope s_law_onward) .none kV_law_onward dc_law_onward pm_law_onward an_law_onward cd_law_onward ct_law_onward, f_law_ways := f_law_ways, d_law_ways := PySem.W.fnOf "_law_ways" "_law_ways" (defArgs s_law_ways) (defBody s_law_ways) (defScope s_law_ways) .none kV_law_ways dc_law_ways pm_law_ways an_law_ways cd_law_ways ct_law_ways, f_law_live := f_law_live, d_law_live := PySem.W.fnOf "_law_live" "_law_live" (defArgs s_law_live) (defBody s_law_live) (defScope s_law_live) .none kV_law_live dc_law_live pm_law_live an_law_live cd_law_live ct_law_live, f_law_pairs := f_law_pairs, d_law_pairs := PySem.W.fnOf "_law_pairs" "_law_pairs" (defArgs s_law_pairs) (defBody s_law_pairs) (defScope s_law_pairs) .none kV_law_pairs dc_law_pairs pm_law_pairs an_law_pairs cd_law_pairs ct_law_pairs, f_law_conflicts := f_law_conflicts, d_law_conflicts := PySem.W.fnOf "_law_conflicts" "_law_conflicts" (defArgs s_law_conflicts) (defBody s_law_conflicts) (defScope s_law_conflicts) .none kV_law_conflicts dc_law_conflicts pm_law_conflicts an_law_conflicts cd_law_conflicts ct_law_conflicts, f_law_first_free := f_law_first_free, d_law_first_free := PySem.W.fnOf "_law_first_free" "_law_first_free" (defArgs s_law_first_free) (defBody s_law_first_free) (defScope s_law_first_free) .none kV_law_first_free dc_law_first_free pm_law_first_free an_law_first_free cd_law_first_free ct_law_first_free, f_law_assigned := f_law_assigned, d_law_assigned := PySem.W.fnOf "_law_assigned" "_law_assigned" (defArgs s_law_assigned) (defBody s_law_assigned) (defScope s_law_assigned) .none kV_law_assigned dc_law_assigned pm_law_assigned an_law_assigned cd_law_assigned ct_law_assigned, f_law_same := f_law_same, d_law_same := PySem.W.fnOf "_law_same" "_law_same" (defArgs s_law_same) (defBody s_law_same) (defScope s_law_same) .none kV_law_same dc_law_same pm_law_same an_law_same cd_law_same ct_law_same, f_law := fa, d_law := PySem.W.fnOf "law" "law" (defArgs s_law) (defBody s_law) (defScope s_law) .none kV_law dc_law pm_law an_law cd_law ct_law, t_INS := t_INS, c_LEAVING := c_LEAVING, t_LOCALS := t_LOCALS, c_RAISING := c_RAISING, c_WRITING := c_WRITING, C_Unit := C_Unit, C_Module := C_Module }
  have T : Txt K mg a := {
    F_Unit___init__ := fun_mk (st := s_Unit___init__) l_Unit___init__ c_Unit___init__ k_Unit___init__,
    k_Unit___init__ := k_Unit___init__,
    bd_Unit___init__ := (fun_mk (st := s_Unit___init__) l_Unit___init__ c_Unit___init__ k_Unit___init__).binds (ps := ["self", "parent", "arguments", "results", "registers", "cells", "code", "regions"]) fun _ _ _ _ _ _ us hl => match us, hl with | [_, _, _, _, _, _, _, _], _ => rfl,
    F_Module___init__ := fun_mk (st := s_Module___init__) l_Module___init__ c_Module___init__ k_Module___init__,
    k_Module___init__ := k_Module___init__,
    bd_Module___init__ := (fun_mk (st := s_Module___init__) l_Module___init__ c_Module___init__ k_Module___init__).binds (ps := ["self", "units", "names", "places"]) fun _ _ _ _ _ _ us hl => match us, hl with | [_, _, _, _], _ => rfl,
    g_operands := PySem.W.mg_of X G a_operands,
    F_operands := fun_mk (st := s_operands) l_operands c_operands k_operands,
    k_operands := k_operands,
    bd_operands := (fun_mk (st := s_operands) l_operands c_operands k_operands).binds (ps := ["instruction"]) fun _ _ _ _ _ _ us hl => match us, hl with | [_], _ => rfl,
    g_reads := PySem.W.mg_of X G a_reads,
    F_reads := fun_mk (st := s_reads) l_reads c_reads k_reads,
    k_reads := k_reads,
    bd_reads := (fun_mk (st := s_reads) l_reads c_reads k_reads).binds (ps := ["instruction"]) fun _ _ _ _ _ _ us hl => match us, hl with | [_], _ => rfl,
    g_writes := PySem.W.mg_of X G a_writes,
    F_writes := fun_mk (st := s_writes) l_writes c_writes k_writes,
    k_writes := k_writes,
    bd_writes := (fun_mk (st := s_writes) l_writes c_writes k_writes).binds (ps := ["instruction"]) fun _ _ _ _ _ _ us hl => match us, hl with | [_], _ => rfl,
    g_can_raise := PySem.W.mg_of X G a_can_raise,
    F_can_raise := fun_mk (st := s_can_raise) l_can_raise c_can_raise k_can_raise,
    k_can_raise := k_can_raise,
    bd_can_raise := (fun_mk (st := s_can_raise) l_can_raise c_can_raise k_can_raise).binds (ps := ["instruction"]) fun _ _ _ _ _ _ us hl => match us, hl with | [_], _ => rfl,
    g_followers := PySem.W.mg_of X G a_followers,
    F_followers := fun_mk (st := s_followers) l_followers c_followers k_followers,
    k_followers := k_followers,
    bd_followers := (fun_mk (st := s_followers) l_followers c_followers k_followers).binds (ps := ["instruction", "index"]) fun _ _ _ _ _ _ us hl => match us, hl with | [_, _], _ => rfl,
    g_edges := PySem.W.mg_of X G a_edges,
    F_edges := fun_mk (st := s_edges) l_edges c_edges k_edges,
    k_edges := k_edges,
    bd_edges := (fun_mk (st := s_edges) l_edges c_edges k_edges).binds (ps := ["unit"]) fun _ _ _ _ _ _ us hl => match us, hl with | [_], _ => rfl,
    g_ways_back := PySem.W.mg_of X G a_ways_back,
    F_ways_back := fun_mk (st := s_ways_back) l_ways_back c_ways_back k_ways_back,
    k_ways_back := k_ways_back,
    bd_ways_back := (fun_mk (st := s_ways_back) l_ways_back c_ways_back k_ways_back).binds (ps := ["ways"]) fun _ _ _ _ _ _ us hl => match us, hl with | [_], _ => rfl,
    g_taken_regions := PySem.W.mg_of X G a_taken_regions,
    F_taken_regions := fun_mk (st := s_taken_regions) l_taken_regions c_taken_regions k_taken_regions,
    k_taken_regions := k_taken_regions,
    bd_taken_regions := (fun_mk (st := s_taken_regions) l_taken_regions c_taken_regions k_taken_regions).binds (ps := ["unit"]) fun _ _ _ _ _ _ us hl => match us, hl with | [_], _ => rfl,
    g_first_free_flow := PySem.W.mg_of X G a_first_free_flow,
    F_first_free_flow := fun_mk (st := s_first_free_flow) l_first_free_flow c_first_free_flow k_first_free_flow,
    k_first_free_flow := k_first_free_flow,
    bd_first_free_flow := (fun_mk (st := s_first_free_flow) l_first_free_flow c_first_free_flow k_first_free_flow).binds (ps := ["onward", "index"]) fun _ _ _ _ _ _ us hl => match us, hl with | [_, _], _ => rfl,
    g_live_masks := PySem.W.mg_of X G a_live_masks,
    F_live_masks := fun_mk (st := s_live_masks) l_live_masks c_live_masks k_live_masks,
    k_live_masks := k_live_masks,
    bd_live_masks := (fun_mk (st := s_live_masks) l_live_masks c_live_masks k_live_masks).binds (ps := ["unit"]) fun _ _ _ _ _ _ us hl => match us, hl with | [_], _ => rfl,
    g_mask_of := PySem.W.mg_of X G a_mask_of,
    F_mask_of := fun_mk (st := s_mask_of) l_mask_of c_mask_of k_mask_of,
    k_mask_of := k_mask_of,
    bd_mask_of := (fun_mk (st := s_mask_of) l_mask_of c_mask_of k_mask_of).binds (ps := ["numbers"]) fun _ _ _ _ _ _ us hl => match us, hl with | [_], _ => rfl,
    g_numbers_of := PySem.W.mg_of X G a_numbers_of,
    F_numbers_of := fun_mk (st := s_numbers_of) l_numbers_of c_numbers_of k_numbers_of,
    k_numbers_of := k_numbers_of,
    bd_numbers_of := (fun_mk (st := s_numbers_of) l_numbers_of c_numbers_of k_numbers_of).binds (ps := ["mask"]) fun _ _ _ _ _ _ us hl => match us, hl with | [_], _ => rfl,
    g__needed_at := PySem.W.mg_of X G a_needed_at,
    F__needed_at := fun_mk (st := s_needed_at) l_needed_at c_needed_at k_needed_at,
    k__needed_at := k_needed_at,
    bd__needed_at := (fun_mk (st := s_needed_at) l_needed_at c_needed_at k_needed_at).binds (ps := ["instruction", "index", "region", "needed"]) fun _ _ _ _ _ _ us hl => match us, hl with | [_, _, _, _], _ => rfl,
    g_conflicts := PySem.W.mg_of X G a_conflicts,
    F_conflicts := fun_mk (st := s_conflicts) l_conflicts c_conflicts k_conflicts,
    k_conflicts := k_conflicts,
    bd_conflicts := (fun_mk (st := s_conflicts) l_conflicts c_conflicts k_conflicts).binds (ps := ["unit"]) fun _ _ _ _ _ _ us hl => match us, hl with | [_], _ => rfl,
    g_assign := PySem.W.mg_of X G a_assign,
    F_assign := fun_mk (st := s_assign) l_assign c_assign k_assign,
    k_assign := k_assign,
    bd_assign := (fun_mk (st := s_assign) l_assign c_assign k_assign).binds (ps := ["unit"]) fun _ _ _ _ _ _ us hl => match us, hl with | [_], _ => rfl,
    g_registers_read := PySem.W.mg_of X G a_registers_read,
    F_registers_read := fun_mk (st := s_registers_read) l_registers_read c_registers_read k_registers_read,
    k_registers_read := k_registers_read,
    bd_registers_read := (fun_mk (st := s_registers_read) l_registers_read c_registers_read k_registers_read).binds (ps := ["unit"]) fun _ _ _ _ _ _ us hl => match us, hl with | [_], _ => rfl,
    g_live_arguments := PySem.W.mg_of X G a_live_arguments,
    F_live_arguments := fun_mk (st := s_live_arguments) l_live_arguments c_live_arguments k_live_arguments,
    k_live_arguments := k_live_arguments,
    bd_live_arguments := (fun_mk (st := s_live_arguments) l_live_arguments c_live_arguments k_live_arguments).binds (ps := ["unit"]) fun _ _ _ _ _ _ us hl => match us, hl with | [_], _ => rfl,
    g__add_conflicts := PySem.W.mg_of X G a_add_conflicts,
    F__add_conflicts := fun_mk (st := s_add_conflicts) l_add_conflicts c_add_conflicts k_add_conflicts,
    k__add_conflicts := k_add_conflicts,
    bd__add_conflicts := (fun_mk (st := s_add_conflicts) l_add_conflicts c_add_conflicts k_add_conflicts).binds (ps := ["found", "some", "others"]) fun _ _ _ _ _ _ us hl => match us, hl with | [_, _, _], _ => rfl,
    g__in_both_ways := PySem.W.mg_of X G a_in_both_ways,
    F__in_both_ways := fun_mk (st := s_in_both_ways) l_in_both_ways c_in_both_ways k_in_both_ways,
    k__in_both_ways := k_in_both_ways,
    bd__in_both_ways := (fun_mk (st := s_in_both_ways) l_in_both_ways c_in_both_ways k_in_both_ways).binds (ps := ["found"]) fun _ _ _ _ _ _ us hl => match us, hl with | [_], _ => rfl,
    g_first_free_assign := PySem.W.mg_of X G a_first_free_assign,
    F_first_free_assign := fun_mk (st := s_first_free_assign) l_first_free_assign c_first_free_assign k_first_free_assign,
    k_first_free_assign := k_first_free_assign,
    bd_first_free_assign := (fun_mk (st := s_first_free_assign) l_first_free_assign c_first_free_assign k_first_free_assign).binds (ps := ["places"]) fun _ _ _ _ _ _ us hl => match us, hl with | [_], _ => rfl,
    g__law_start := PySem.W.mg_of X G a_law_start,
    F__law_start := fun_mk (st := s_law_start) l_law_start c_law_start k_law_start,
    k__law_start := k_law_start,
    bd__law_start := (fun_mk (st := s_law_start) l_law_start c_law_start k_law_start).binds (ps := ["script"]) fun _ _ _ _ _ _ us hl => match us, hl with | [_], _ => rfl,
    g__law_take := PySem.W.mg_of X G a_law_take,
    F__law_take := fun_mk (st := s_law_take) l_law_take c_law_take k_law_take,
    k__law_take := k_law_take,
    bd__law_take := (fun_mk (st := s_law_take) l_law_take c_law_take k_law_take).binds (ps := ["state", "many"]) fun _ _ _ _ _ _ us hl => match us, hl with | [_, _], _ => rfl,
    g__law_place := PySem.W.mg_of X G a_law_place,
    F__law_place := fun_mk (st := s_law_place) l_law_place c_law_place k_law_place,
    k__law_place := k_law_place,
    bd__law_place := (fun_mk (st := s_law_place) l_law_place c_law_place k_law_place).binds (ps := ["state"]) fun _ _ _ _ _ _ us hl => match us, hl with | [_], _ => rfl,
    g__law_operand := PySem.W.mg_of X G a_law_operand,
    F__law_operand := fun_mk (st := s_law_operand) l_law_operand c_law_operand k_law_operand,
    k__law_operand := k_law_operand,
    bd__law_operand := (fun_mk (st := s_law_operand) l_law_operand c_law_operand k_law_operand).binds (ps := ["state", "shape"]) fun _ _ _ _ _ _ us hl => match us, hl with | [_, _], _ => rfl,
    g__law_target := PySem.W.mg_of X G a_law_target,
    F__law_target := fun_mk (st := s_law_target) l_law_target c_law_target k_law_target,
    k__law_target := k_law_target,
    bd__law_target := (fun_mk (st := s_law_target) l_law_target c_law_target k_law_target).binds (ps := ["state", "index", "ticks"]) fun _ _ _ _ _ _ us hl => match us, hl with | [_, _, _], _ => rfl,
    g__law_around := PySem.W.mg_of X G a_law_around,
    F__law_around := fun_mk (st := s_law_around) l_law_around c_law_around k_law_around,
    k__law_around := k_law_around,
    bd__law_around := (fun_mk (st := s_law_around) l_law_around c_law_around k_law_around).binds (ps := ["shapes", "number", "hops"]) fun _ _ _ _ _ _ us hl => match us, hl with | [_, _, _], _ => rfl,
    g__law_memory := PySem.W.mg_of X G a_law_memory,
    F__law_memory := fun_mk (st := s_law_memory) l_law_memory c_law_memory k_law_memory,
    k__law_memory := k_law_memory,
    bd__law_memory := (fun_mk (st := s_law_memory) l_law_memory c_law_memory k_law_memory).binds (ps := ["state", "shapes", "number"]) fun _ _ _ _ _ _ us hl => match us, hl with | [_, _, _], _ => rfl,
    g__law_call := PySem.W.mg_of X G a_law_call,
    F__law_call := fun_mk (st := s_law_call) l_law_call c_law_call k_law_call,
    k__law_call := k_law_call,
    bd__law_call := (fun_mk (st := s_law_call) l_law_call c_law_call k_law_call).binds (ps := ["state", "shapes", "number"]) fun _ _ _ _ _ _ us hl => match us, hl with | [_, _, _], _ => rfl,
    g__law_instruction := PySem.W.mg_of X G a_law_instruction,
    F__law_instruction := fun_mk (st := s_law_instruction) l_law_instruction c_law_instruction k_law_instruction,
    k__law_instruction := k_law_instruction,
    bd__law_instruction := (fun_mk (st := s_law_instruction) l_law_instruction c_law_instruction k_law_instruction).binds (ps := ["state", "shapes", "number", "index", "ticks", "regions"]) fun _ _ _ _ _ _ us hl => match us, hl with | [_, _, _, _, _, _], _ => rfl,
    g__law_regions := PySem.W.mg_of X G a_law_regions,
    F__law_regions := fun_mk (st := s_law_regions) l_law_regions c_law_regions k_law_regions,
    k__law_regions := k_law_regions,
    bd__law_regions := (fun_mk (st := s_law_regions) l_law_regions c_law_regions k_law_regions).binds (ps := ["state", "shape", "size"]) fun _ _ _ _ _ _ us hl => match us, hl with | [_, _, _], _ => rfl,
    g__law_unit := PySem.W.mg_of X G a_law_unit,
    F__law_unit := fun_mk (st := s_law_unit) l_law_unit c_law_unit k_law_unit,
    k__law_unit := k_law_unit,
    bd__law_unit := (fun_mk (st := s_law_unit) l_law_unit c_law_unit k_law_unit).binds (ps := ["state", "shapes", "number"]) fun _ _ _ _ _ _ us hl => match us, hl with | [_, _, _], _ => rfl,
    g__law_shapes := PySem.W.mg_of X G a_law_shapes,
    F__law_shapes := fun_mk (st := s_law_shapes) l_law_shapes c_law_shapes k_law_shapes,
    k__law_shapes := k_law_shapes,
    bd__law_shapes := (fun_mk (st := s_law_shapes) l_law_shapes c_law_shapes k_law_shapes).binds (ps := ["state"]) fun _ _ _ _ _ _ us hl => match us, hl with | [_], _ => rfl,
    g__law_module := PySem.W.mg_of X G a_law_module,
    F__law_module := fun_mk (st := s_law_module) l_law_module c_law_module k_law_module,
    k__law_module := k_law_module,
    bd__law_module := (fun_mk (st := s_law_module) l_law_module c_law_module k_law_module).binds (ps := ["state"]) fun _ _ _ _ _ _ us hl => match us, hl with | [_], _ => rfl,
    g__law_operands := PySem.W.mg_of X G a_law_operands,
    F__law_operands := fun_mk (st := s_law_operands) l_law_operands c_law_operands k_law_operands,
    k__law_operands := k_law_operands,
    bd__law_operands := (fun_mk (st := s_law_operands) l_law_operands c_law_operands k_law_operands).binds (ps := ["instruction"]) fun _ _ _ _ _ _ us hl => match us, hl with | [_], _ => rfl,
    g__law_reads := PySem.W.mg_of X G a_law_reads,
    F__law_reads := fun_mk (st := s_law_reads) l_law_reads c_law_reads k_law_reads,
    k__law_reads := k_law_reads,
    bd__law_reads := (fun_mk (st := s_law_reads) l_law_reads c_law_reads k_law_reads).binds (ps := ["instruction"]) fun _ _ _ _ _ _ us hl => match us, hl with | [_], _ => rfl,
    g__law_writes := PySem.W.mg_of X G a_law_writes,
    F__law_writes := fun_mk (st := s_law_writes) l_law_writes c_law_writes k_law_writes,
    k__law_writes := k_law_writes,
    bd__law_writes := (fun_mk (st := s_law_writes) l_law_writes c_law_writes k_law_writes).binds (ps := ["instruction"]) fun _ _ _ _ _ _ us hl => match us, hl with | [_], _ => rfl,
    g__law_onward := PySem.W.mg_of X G a_law_onward,
    F__law_onward := fun_mk (st := s_law_onward) l_law_onward c_law_onward k_law_onward,
    k__law_onward := k_law_onward,
    bd__law_onward := (fun_mk (st := s_law_onward) l_law_onward c_law_onward k_law_onward).binds (ps := ["unit", "index"]) fun _ _ _ _ _ _ us hl => match us, hl with | [_, _], _ => rfl,
    g__law_ways := PySem.W.mg_of X G a_law_ways,
    F__law_ways := fun_mk (st := s_law_ways) l_law_ways c_law_ways k_law_ways,
    k__law_ways := k_law_ways,
    bd__law_ways := (fun_mk (st := s_law_ways) l_law_ways c_law_ways k_law_ways).binds (ps := ["unit", "index"]) fun _ _ _ _ _ _ us hl => match us, hl with | [_, _], _ => rfl,
    g__law_live := PySem.W.mg_of X G a_law_live,
    F__law_live := fun_mk (st := s_law_live) l_law_live c_law_live k_law_live,
    k__law_live := k_law_live,
    bd__law_live := (fun_mk (st := s_law_live) l_law_live c_law_live k_law_live).binds (ps := ["unit"]) fun _ _ _ _ _ _ us hl => match us, hl with | [_], _ => rfl,
    g__law_pairs := PySem.W.mg_of X G a_law_pairs,
    F__law_pairs := fun_mk (st := s_law_pairs) l_law_pairs c_law_pairs k_law_pairs,
    k__law_pairs := k_law_pairs,
    bd__law_pairs := (fun_mk (st := s_law_pairs) l_law_pairs c_law_pairs k_law_pairs).binds (ps := ["found", "first", "second"]) fun _ _ _ _ _ _ us hl => match us, hl with | [_, _, _], _ => rfl,
    g__law_conflicts := PySem.W.mg_of X G a_law_conflicts,
    F__law_conflicts := fun_mk (st := s_law_conflicts) l_law_conflicts c_law_conflicts k_law_conflicts,
    k__law_conflicts := k_law_conflicts,
    bd__law_conflicts := (fun_mk (st := s_law_conflicts) l_law_conflicts c_law_conflicts k_law_conflicts).binds (ps := ["unit"]) fun _ _ _ _ _ _ us hl => match us, hl with | [_], _ => rfl,
    g__law_first_free := PySem.W.mg_of X G a_law_first_free,
    F__law_first_free := fun_mk (st := s_law_first_free) l_law_first_free c_law_first_free k_law_first_free,
    k__law_first_free := k_law_first_free,
    bd__law_first_free := (fun_mk (st := s_law_first_free) l_law_first_free c_law_first_free k_law_first_free).binds (ps := ["taken"]) fun _ _ _ _ _ _ us hl => match us, hl with | [_], _ => rfl,
    g__law_assigned := PySem.W.mg_of X G a_law_assigned,
    F__law_assigned := fun_mk (st := s_law_assigned) l_law_assigned c_law_assigned k_law_assigned,
    k__law_assigned := k_law_assigned,
    bd__law_assigned := (fun_mk (st := s_law_assigned) l_law_assigned c_law_assigned k_law_assigned).binds (ps := ["unit"]) fun _ _ _ _ _ _ us hl => match us, hl with | [_], _ => rfl,
    g__law_same := PySem.W.mg_of X G a_law_same,
    F__law_same := fun_mk (st := s_law_same) l_law_same c_law_same k_law_same,
    k__law_same := k_law_same,
    bd__law_same := (fun_mk (st := s_law_same) l_law_same c_law_same k_law_same).binds (ps := ["assignment", "due"]) fun _ _ _ _ _ _ us hl => match us, hl with | [_, _], _ => rfl,
    g_law := PySem.W.mg_of X G a_law,
    F_law := fun_mk (st := s_law) l_law c_law k_law,
    k_law := k_law,
    bd_law := (fun_mk (st := s_law) l_law c_law k_law).binds (ps := ["script"]) fun _ _ _ _ _ _ us hl => match us, hl with | [_], _ => rfl,
    g_INS := PySem.W.mg_of X G a_INS,
    g_LEAVING := PySem.W.mg_of X G a_LEAVING,
    q_LEAVING := fun H => sqT_of l_LEAVING q_LEAVING,
    g_LOCALS := PySem.W.mg_of X G a_LOCALS,
    g_RAISING := PySem.W.mg_of X G a_RAISING,
    q_RAISING := fun H => sqT_of l_RAISING q_RAISING,
    g_WRITING := PySem.W.mg_of X G a_WRITING,
    q_WRITING := fun H => sqT_of l_WRITING q_WRITING,
    b_bool := PySem.W.mg_none_of X G z_bool,
    b_enumerate := PySem.W.mg_none_of X G z_enumerate,
    b_int := PySem.W.mg_none_of X G z_int,
    b_isinstance := PySem.W.mg_none_of X G z_isinstance,
    b_len := PySem.W.mg_none_of X G z_len,
    b_list := PySem.W.mg_none_of X G z_list,
    b_max := PySem.W.mg_none_of X G z_max,
    b_min := PySem.W.mg_none_of X G z_min,
    b_range := PySem.W.mg_none_of X G z_range,
    b_sorted := PySem.W.mg_none_of X G z_sorted,
    b_str := PySem.W.mg_none_of X G z_str,
    b_tuple := PySem.W.mg_none_of X G z_tuple,
    b_zip := PySem.W.mg_none_of X G z_zip,
    g_Unit := PySem.W.mg_of X G aC_Unit,
    cl_Unit := ⟨pg_Unit, hd_Unit, po_Unit, sa_Unit⟩,
    mk_Unit := ⟨mk_Unit, a_Unit___init__, i_Unit___init__, kC_Unit⟩,
    n_Unit_parent := n_Unit_parent,
    n_Unit_arguments := n_Unit_arguments,
    n_Unit_results := n_Unit_results,
    n_Unit_registers := n_Unit_registers,
    n_Unit_cells := n_Unit_cells,
    n_Unit_code := n_Unit_code,
    n_Unit_regions := n_Unit_regions,
    g_Module := PySem.W.mg_of X G aC_Module,
    cl_Module := ⟨pg_Module, hd_Module, po_Module, sa_Module⟩,
    mk_Module := ⟨mk_Module, a_Module___init__, i_Module___init__, kC_Module⟩,
    n_Module_units := n_Module_units,
    n_Module_names := n_Module_names,
    n_Module_places := n_Module_places }
  exact ⟨a.d_law, fun s v => .of_eq rfl, fun base _ _ => ok_law T⟩
theorem walk {l : PySem.W.OpenLaw} {q : Program} {loose : List Str} {XP : (Str → Option Value) → Heap → Prop} {YP : World → Heap → Prop} {d : DefRec} {K : Params → PySem.W.Frag} (hn : l.most = some 63) (hdf : d.params.defaults = [])
    (hY : ∀ (w : World) (h : Heap), YP w h → (K w.params).In h)
    (F : ∀ (w : World) (mg : Str → Option Value) (fa : Addr) (h : Heap), (K w.params).In h → h.Ns mainGlobals mg → mg d.name = some (.ref fa) →
      ∃ fd : FuncData, (∀ (s : Shared) (u : Value), BindsTo s fd ⟨[u], []⟩ [("script", u)]) ∧ ∀ base : Heap, (K w.params).In base → base.Ns mainGlobals mg → FnOk l.prog w (K w.params) mg base CX0 7 fa fd ["script"] (spLaw (K w.params))) :
    PySem.W.WalkO q loose XP YP l.row.toRowW d [] (fun f vs => PySem.call f vs) :=
  L2.walk_of (n := 63) (k := 7) (x := "script") (CX := fun _ => CX0) (sp := fun w => spLaw (K w.params)) hn (by decide) hdf ⟨rfl, by decide, by decide⟩ hY F (fun _ _ a ns hl _ hS => ⟨a, ns, rfl, hS, hl, fun _ => rfl⟩) fun _ _ _ _ _ z => z

end My
open PySem PySem.W PyProof.Rows
set_option maxRecDepth 100000 in
set_option maxHeartbeats 0 in
theorem PySem.Challenge.cw_windowada_k54_first_free_places_holds : PySem.Challenge.rw_windowada_k54_first_free_places.Holds := by
  w_on; o_law; k_head; (case hw => w_witness2)
  k_fill
  refine My.walk (l := PySem.Challenge.rw_windowada_k54_first_free_places) rfl rfl (fun w h Y => PySem.W.kIn_of Y) ?F
  case F =>
    intro w mg fa h KX G hmg
    refine' My.all_mk KX G hmg ?aC_Unit ?pg_Unit ?hd_Unit ?po_Unit ?sa_Unit ?mk_Unit ?kC_Unit ?n_Unit_parent ?n_Unit_arguments ?n_Unit_results ?n_Unit_registers ?n_Unit_cells ?n_Unit_code ?n_Unit_regions ?aC_Module ?pg_Module ?hd_Module ?po_Module ?sa_Module ?mk_Module ?kC_Module ?n_Module_units ?n_Module_names ?n_Module_places ?a_Unit___init__ ?i_Unit___init__ ?l_Unit___init__ ?c_Unit___init__ ?k_Unit___init__ ?a_Module___init__ ?i_Module___init__ ?l_Module___init__ ?c_Module___init__ ?k_Module___init__ ?a_operands ?l_operands ?c_operands ?k_operands ?a_reads ?l_reads ?c_reads ?k_reads ?a_writes ?l_writes ?c_writes ?k_writes ?a_can_raise ?l_can_raise ?c_can_raise ?k_can_raise ?a_followers ?l_followers ?c_followers ?k_followers ?a_edges ?l_edges ?c_edges ?k_edges ?a_ways_back ?l_ways_back ?c_ways_back ?k_ways_back ?a_taken_regions ?l_taken_regions ?c_taken_regions ?k_taken_regions ?a_first_free_flow ?l_first_free_flow ?c_first_free_flow ?k_first_free_flow ?a_live_masks ?l_live_masks ?c_live_masks ?k_live_masks ?a_mask_of ?l_mask_of ?c_mask_of ?k_mask_of ?a_numbers_of ?l_numbers_of ?c_numbers_of ?k_numbers_of ?a_needed_at ?l_needed_at ?c_needed_at ?k_needed_at ?a_conflicts ?l_conflicts ?c_conflicts ?k_conflicts ?a_assign ?l_assign ?c_assign ?k_assign ?a_registers_read ?l_registers_read ?c_registers_read ?k_registers_read ?a_live_arguments ?l_live_arguments ?c_live_arguments ?k_live_arguments ?a_add_conflicts ?l_add_conflicts ?c_add_conflicts ?k_add_conflicts ?a_in_both_ways ?l_in_both_ways ?c_in_both_ways ?k_in_both_ways ?a_first_free_assign ?l_first_free_assign ?c_first_free_assign ?k_first_free_assign ?a_law_start ?l_law_start ?c_law_start ?k_law_start ?a_law_take ?l_law_take ?c_law_take ?k_law_take ?a_law_place ?l_law_place ?c_law_place ?k_law_place ?a_law_operand ?l_law_operand ?c_law_operand ?k_law_operand ?a_law_target ?l_law_target ?c_law_target ?k_law_target ?a_law_around ?l_law_around ?c_law_around ?k_law_around ?a_law_memory ?l_law_memory ?c_law_memory ?k_law_memory ?a_law_call ?l_law_call ?c_law_call ?k_law_call ?a_law_instruction ?l_law_instruction ?c_law_instruction ?k_law_instruction ?a_law_regions ?l_law_regions ?c_law_regions ?k_law_regions ?a_law_unit ?l_law_unit ?c_law_unit ?k_law_unit ?a_law_shapes ?l_law_shapes ?c_law_shapes ?k_law_shapes ?a_law_module ?l_law_module ?c_law_module ?k_law_module ?a_law_operands ?l_law_operands ?c_law_operands ?k_law_operands ?a_law_reads ?l_law_reads ?c_law_reads ?k_law_reads ?a_law_writes ?l_law_writes ?c_law_writes ?k_law_writes ?a_law_onward ?l_law_onward ?c_law_onward ?k_law_onward ?a_law_ways ?l_law_ways ?c_law_ways ?k_law_ways ?a_law_live ?l_law_live ?c_law_live ?k_law_live ?a_law_pairs ?l_law_pairs ?c_law_pairs ?k_law_pairs ?a_law_conflicts ?l_law_conflicts ?c_law_conflicts ?k_law_conflicts ?a_law_first_free ?l_law_first_free ?c_law_first_free ?k_law_first_free ?a_law_assigned ?l_law_assigned ?c_law_assigned ?k_law_assigned ?a_law_same ?l_law_same ?c_law_same ?k_law_same ?a_law ?l_law ?c_law ?k_law ?a_INS ?a_LEAVING ?l_LEAVING ?q_LEAVING ?a_LOCALS ?a_RAISING ?l_RAISING ?q_RAISING ?a_WRITING ?l_WRITING ?q_WRITING ?z_bool ?z_enumerate ?z_int ?z_isinstance ?z_len ?z_list ?z_max ?z_min ?z_range ?z_sorted ?z_str ?z_tuple ?z_zip
    (case aC_Unit => k_is)
    (case pg_Unit => k_is)
    (case hd_Unit => k_is)
    (case po_Unit => k_is)
    (case sa_Unit => k_is)
    (case mk_Unit => k_is)
    (case kC_Unit => k_is)
    (case n_Unit_parent => k_is)
    (case n_Unit_arguments => k_is)
    (case n_Unit_results => k_is)
    (case n_Unit_registers => k_is)
    (case n_Unit_cells => k_is)
    (case n_Unit_code => k_is)
    (case n_Unit_regions => k_is)
    (case aC_Module => k_is)
    (case pg_Module => k_is)
    (case hd_Module => k_is)
    (case po_Module => k_is)
    (case sa_Module => k_is)
    (case mk_Module => k_is)
    (case kC_Module => k_is)
    (case n_Module_units => k_is)
    (case n_Module_names => k_is)
    (case n_Module_places => k_is)
    (case a_Unit___init__ => k_is)
    (case i_Unit___init__ => first | rfl | k_is)
    (case l_Unit___init__ => k_is)
    (case c_Unit___init__ => k_is)
    (case k_Unit___init__ => k_is)
    (case a_Module___init__ => k_is)
    (case i_Module___init__ => first | rfl | k_is)
    (case l_Module___init__ => k_is)
    (case c_Module___init__ => k_is)
    (case k_Module___init__ => k_is)
    (case a_operands => k_is)
    (case l_operands => k_is)
    (case c_operands => k_is)
    (case k_operands => k_is)
    (case a_reads => k_is)
    (case l_reads => k_is)
    (case c_reads => k_is)
    (case k_reads => k_is)
    (case a_writes => k_is)
    (case l_writes => k_is)
    (case c_writes => k_is)
    (case k_writes => k_is)
    (case a_can_raise => k_is)
    (case l_can_raise => k_is)
    (case c_can_raise => k_is)
    (case k_can_raise => k_is)
    (case a_followers => k_is)
    (case l_followers => k_is)
    (case c_followers => k_is)
    (case k_followers => k_is)
    (case a_edges => k_is)
    (case l_edges => k_is)
    (case c_edges => k_is)
    (case k_edges => k_is)
    (case a_ways_back => k_is)
    (case l_ways_back => k_is)
    (case c_ways_back => k_is)
    (case k_ways_back => k_is)
    (case a_taken_regions => k_is)
    (case l_taken_regions => k_is)
    (case c_taken_regions => k_is)
    (case k_taken_regions => k_is)
    (case a_first_free_flow => k_is)
    (case l_first_free_flow => k_is)
    (case c_first_free_flow => k_is)
    (case k_first_free_flow => k_is)
    (case a_live_masks => k_is)
    (case l_live_masks => k_is)
    (case c_live_masks => k_is)
    (case k_live_masks => k_is)
    (case a_mask_of => k_is)
    (case l_mask_of => k_is)
    (case c_mask_of => k_is)
    (case k_mask_of => k_is)
    (case a_numbers_of => k_is)
    (case l_numbers_of => k_is)
    (case c_numbers_of => k_is)
    (case k_numbers_of => k_is)
    (case a_needed_at => k_is)
    (case l_needed_at => k_is)
    (case c_needed_at => k_is)
    (case k_needed_at => k_is)
    (case a_conflicts => k_is)
    (case l_conflicts => k_is)
    (case c_conflicts => k_is)
    (case k_conflicts => k_is)
    (case a_assign => k_is)
    (case l_assign => k_is)
    (case c_assign => k_is)
    (case k_assign => k_is)
    (case a_registers_read => k_is)
    (case l_registers_read => k_is)
    (case c_registers_read => k_is)
    (case k_registers_read => k_is)
    (case a_live_arguments => k_is)
    (case l_live_arguments => k_is)
    (case c_live_arguments => k_is)
    (case k_live_arguments => k_is)
    (case a_add_conflicts => k_is)
    (case l_add_conflicts => k_is)
    (case c_add_conflicts => k_is)
    (case k_add_conflicts => k_is)
    (case a_in_both_ways => k_is)
    (case l_in_both_ways => k_is)
    (case c_in_both_ways => k_is)
    (case k_in_both_ways => k_is)
    (case a_first_free_assign => k_is)
    (case l_first_free_assign => k_is)
    (case c_first_free_assign => k_is)
    (case k_first_free_assign => k_is)
    (case a_law_start => k_is)
    (case l_law_start => k_is)
    (case c_law_start => k_is)
    (case k_law_start => k_is)
    (case a_law_take => k_is)
    (case l_law_take => k_is)
    (case c_law_take => k_is)
    (case k_law_take => k_is)
    (case a_law_place => k_is)
    (case l_law_place => k_is)
    (case c_law_place => k_is)
    (case k_law_place => k_is)
    (case a_law_operand => k_is)
    (case l_law_operand => k_is)
    (case c_law_operand => k_is)
    (case k_law_operand => k_is)
    (case a_law_target => k_is)
    (case l_law_target => k_is)
    (case c_law_target => k_is)
    (case k_law_target => k_is)
    (case a_law_around => k_is)
    (case l_law_around => k_is)
    (case c_law_around => k_is)
    (case k_law_around => k_is)
    (case a_law_memory => k_is)
    (case l_law_memory => k_is)
    (case c_law_memory => k_is)
    (case k_law_memory => k_is)
    (case a_law_call => k_is)
    (case l_law_call => k_is)
    (case c_law_call => k_is)
    (case k_law_call => k_is)
    (case a_law_instruction => k_is)
    (case l_law_instruction => k_is)
    (case c_law_instruction => k_is)
    (case k_law_instruction => k_is)
    (case a_law_regions => k_is)
    (case l_law_regions => k_is)
    (case c_law_regions => k_is)
    (case k_law_regions => k_is)
    (case a_law_unit => k_is)
    (case l_law_unit => k_is)
    (case c_law_unit => k_is)
    (case k_law_unit => k_is)
    (case a_law_shapes => k_is)
    (case l_law_shapes => k_is)
    (case c_law_shapes => k_is)
    (case k_law_shapes => k_is)
    (case a_law_module => k_is)
    (case l_law_module => k_is)
    (case c_law_module => k_is)
    (case k_law_module => k_is)
    (case a_law_operands => k_is)
    (case l_law_operands => k_is)
    (case c_law_operands => k_is)
    (case k_law_operands => k_is)
    (case a_law_reads => k_is)
    (case l_law_reads => k_is)
    (case c_law_reads => k_is)
    (case k_law_reads => k_is)
    (case a_law_writes => k_is)
    (case l_law_writes => k_is)
    (case c_law_writes => k_is)
    (case k_law_writes => k_is)
    (case a_law_onward => k_is)
    (case l_law_onward => k_is)
    (case c_law_onward => k_is)
    (case k_law_onward => k_is)
    (case a_law_ways => k_is)
    (case l_law_ways => k_is)
    (case c_law_ways => k_is)
    (case k_law_ways => k_is)
    (case a_law_live => k_is)
    (case l_law_live => k_is)
    (case c_law_live => k_is)
    (case k_law_live => k_is)
    (case a_law_pairs => k_is)
    (case l_law_pairs => k_is)
    (case c_law_pairs => k_is)
    (case k_law_pairs => k_is)
    (case a_law_conflicts => k_is)
    (case l_law_conflicts => k_is)
    (case c_law_conflicts => k_is)
    (case k_law_conflicts => k_is)
    (case a_law_first_free => k_is)
    (case l_law_first_free => k_is)
    (case c_law_first_free => k_is)
    (case k_law_first_free => k_is)
    (case a_law_assigned => k_is)
    (case l_law_assigned => k_is)
    (case c_law_assigned => k_is)
    (case k_law_assigned => k_is)
    (case a_law_same => k_is)
    (case l_law_same => k_is)
    (case c_law_same => k_is)
    (case k_law_same => k_is)
    (case a_law => k_is)
    (case l_law => k_is)
    (case c_law => k_is)
    (case k_law => k_is)
    (case a_INS => k_is)
    (case a_LEAVING => k_is)
    (case l_LEAVING => k_is)
    (case q_LEAVING => refine ⟨rfl, _, _, rfl, by decide, ?_⟩; repeat (first | exact .nil | refine .cons ⟨_, rfl⟩ ?_))
    (case a_LOCALS => k_is)
    (case a_RAISING => k_is)
    (case l_RAISING => k_is)
    (case q_RAISING => refine ⟨rfl, _, _, rfl, by decide, ?_⟩; repeat (first | exact .nil | refine .cons ⟨_, rfl⟩ ?_))
    (case a_WRITING => k_is)
    (case l_WRITING => k_is)
    (case q_WRITING => refine ⟨rfl, _, _, rfl, by decide, ?_⟩; repeat (first | exact .nil | refine .cons ⟨_, rfl⟩ ?_))
    (case z_bool => k_is)
    (case z_enumerate => k_is)
    (case z_int => k_is)
    (case z_isinstance => k_is)
    (case z_len => k_is)
    (case z_list => k_is)
    (case z_max => k_is)
    (case z_min => k_is)
    (case z_range => k_is)
    (case z_sorted => k_is)
    (case z_str => k_is)
    (case z_tuple => k_is)
    (case z_zip => k_is)

