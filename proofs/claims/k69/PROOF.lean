import PyProof.Rows.All
import Wide.All
import OpenK.AllK
import Wide.FinOn
import HandS.ForMost
import HandS.ForExc
import HandS.Wide
import HandS.IsInst
import HandS.ExcIs
import HandS.WordsExc
import HandS.Property
import HandS.More
import HandS.Codes
import HandS.TupMul
import HandS.Strs
import HandS.SetFor
import HandS.TryOnly
import HandS.Star
import KE.GoesZip
import KE.GoesEnum
import KE.KItemsList
import HandS.Conv
import HandS.TryMany
import HandS.Style
import HandS.RaiseMore
import HandS.FStr
import HandS.Zip
import HandS.HotCalls
import HandS.ExcCtx
import PySem.Challenge.RW_windowada_k69_trap_handlers
set_option Elab.async false
set_option maxRecDepth 100000
set_option maxHeartbeats 4000000
set_option linter.all false
namespace My
open PySem L2
/-! ### helpers -/
def IsTupOf (o : Obj) (xs : List V) : Prop := o.cls = .type "tuple" ∧ ∃ (its : Array Value) (n : Nat), o.data = .seq its n ∧ its.size ≤ sizeLine ∧ Vals xs its.toList
theorem sqT_of {K : PySem.W.Frag} {H : Hp} {a : Addr} {o : Obj} {xs : List V} (h : K.lookup a = some o) (q : IsTupOf o xs) : SqT K H a xs := by
  obtain ⟨c, its, n, d, z, r⟩ := q
  exact .inr ⟨o, its, n, h, c, d, z, r⟩
theorem upd_self {H : Hp} {a : Addr} {o : HO} (h : H a = some o) : upd H a o = H := by
  funext b
  unfold upd
  split
  · rename_i e; rw [e, h]
  · rfl
theorem exm_of {K : PySem.W.Frag} {S C : Addr} (h1 : PySem.W.subIn K (.ref C) (.type "BaseException") = some true) (h2 : PySem.W.isClsIn K C = true) (h3 : PySem.W.typeIn K (.ref C) = some (.type "type")) {b : Bool} (h4 : PySem.W.subIn K (.ref S) (.ref C) = some b) :
    PySem.W.exmOne K (.ref S) (.ref C) = some b := by
  have e1 : (PySem.W.subIn K (.ref C) (.type "BaseException") == some true) = true := by rw [h1] <;> rfl
  have e2 : ((PySem.W.clsIn K C).isSome && PySem.W.typeIn K (.ref C) == some (.type "type")) = true := by
    have h2' : (PySem.W.clsIn K C).isSome = true := h2
    rw [h2', h3] <;> rfl
  show (if (PySem.W.subIn K (.ref C) (.type "BaseException") == some true) = true then (if ((PySem.W.clsIn K C).isSome && PySem.W.typeIn K (.ref C) == some (.type "type")) = true then PySem.W.subIn K (.ref S) (.ref C) else none) else none) = some b
  rw [if_pos e1, if_pos e2]
  exact h4
theorem sN {H H1 : Hp} {p : Addr} {o : HO} (s : Same H H1) (n : H1 p = none) : Same H (upd H1 p o) := fun b u e => by
  rw [upd_ne (ne_of_none (s b u e) n)]
  exact s b u e
theorem seqT {K : PySem.W.Frag} {H H' : Hp} {a : Addr} {xs : List V} (e : Same H H') (h : SqT K H a xs) : SqT K H' a xs := by
  rcases h with (h | ⟨o, h⟩) | h
  · exact .inl (.inl (e _ _ h))
  · exact .inl (.inr ⟨o, e _ _ h⟩)
  · exact .inr h
theorem ite3 {b : Bool} {A B : Prop} (h1 : b = true → A) (h2 : b = false → B) : if b = true then A else B := by
  cases b with
  | true => exact iteT (h1 rfl)
  | false => exact iteF (h2 rfl)
section
variable {X : Cx}
def rInS (K : PySem.W.Frag) : R2 := fun x y H Q => ∃ p xs, y = .ref p ∧ (SqL K H p xs ∨ SqT K H p xs) ∧ flatV x = true ∧ xs.all flatV = true ∧ Q (.bl (inV x xs)) H
def rNotInS (K : PySem.W.Frag) : R2 := fun x y H Q => ∃ p xs, y = .ref p ∧ (SqL K H p xs ∨ SqT K H p xs) ∧ flatV x = true ∧ xs.all flatV = true ∧ Q (.bl (!inV x xs)) H
theorem op_inS : OpR X (compareOp .In) (rInS X.K) := fun pins s σ H x y v u Q I rx ry h => op_in_seq pins s σ H x y v u Q I rx ry h
theorem op_notInS : OpR X (compareOp .NotIn) (rNotInS X.K) := fun pins s σ H x y v u Q I rx ry h => op_notIn_seq pins s σ H x y v u Q I rx ry h
end
theorem at0 {v : V} {r : List V} : atI (v :: r) 0 = some v := atI_nat (j := 0) rfl
theorem sUpd {H H1 : Hp} {p : Addr} {o : HO} (s : Same H H1) (n : H p = none) : Same H (upd H1 p o) := fun b u e => by
  rw [upd_ne (ne_of_none e n)]
  exact s b u e
/-! ### match over a value -/
structure PMC (X : Cx) (cases : List MatchCase) (t : V → TS) : Prop where
  run : ∀ (first : Bool) (pins : List (Addr × Obj)) (s : Shared) (σ : St) (H : Hp) (D : Ends) (x : V) (v : Value), Inv X pins σ H s → RelV x v → t x D σ H → wpAny (model X.prog X.w) X.A (matchCases cases X.env v first) (SP X pins D) X.xe s
def mNil : V → TS := fun _ D σ H => D.nx σ H
def mStr (z : Str) (t : TS) (u : V → TS) : V → TS := fun x D σ H => scal x (.str z) = true ∧ if decide (x = .str z) = true then t D σ H else u x D σ H
def tMatch (te : TE) (t : V → TS) : TS := fun D σ H => te σ H fun x H1 => t x D σ H1
section
variable {X : Cx}
theorem pmc_nil : PMC X [] mNil := ⟨fun _ _ _ σ H D x v I _ h => wpAny_matchCases_nil ⟨σ, H, I, h⟩⟩
theorem pmc_str {z : Str} {j : Nat} {p p2 : Pos} {body : List Stmt} {rest : List MatchCase} {t : TS} {u : V → TS} (hb : PSs X body t) (hr : PMC X rest u) : PMC X (⟨.MatchValue (.Constant (.str z) j p) p2, none, body⟩ :: rest) (mStr z t u) := by
  refine ⟨fun first pins s σ H D x v I r h => ?_⟩
  obtain ⟨hs, h⟩ := h
  refine wpAny_matchCases_cons (wpAny_matchPattern_Value ?_)
  have hz : PE X (.Constant (.str z) j p) (tC (.str z)) := pe_str
  refine thn (hz.run pins s σ H (fun y H1 => y = .str z ∧ H1 = H) I ⟨rfl, rfl⟩) fun w s1 ⟨y, H1, I1, r1, e1, e2⟩ => ?_
  subst e1; subst e2
  refine thn (op_eq pins s1 σ H1 x (.str z) v w (fun y H2 => y = .bl (decide (x = .str z)) ∧ H2 = H1) I1 r r1 ⟨hs, rfl, rfl⟩) fun c s2 ⟨y, H2, I2, r2, e1, e2⟩ => ?_
  subst e1; subst e2
  cases r2
  refine wpAny_truthy_bool ?_
  cases e : decide (x = V.str z) with
  | true =>
    rw [e] at h
    refine wpAny_assignInOrder_none ?_
    exact hb.run pins s2 σ H2 D I2 (by simpa using h)
  | false =>
    rw [e] at h
    exact hr.run false pins s2 σ H2 D x v I2 r (by simpa using h)
theorem ps_match {e : Expr} {cs : List MatchCase} {pos : Pos} {te : TE} {t : V → TS} (he : PE X e te) (hc : PMC X cs t) : PS X (.Match e cs pos) (tMatch te t) := by
  refine ⟨fun pins s σ H D I h => ?_⟩
  exact wpAny_Match (thn (he.run pins s σ H _ I h) fun v s1 ⟨x, H1, I1, r1, q1⟩ => hc.run true pins s1 σ H1 D x v I1 r1 q1)
/-- isinstance(e, c) in a suite, whatever the caught class is -/
def rIsEx (K : PySem.W.Frag) (a : Addr) (cls : Value) (d : Option Addr) : List V → Hp → VK → Prop := fun xs H Q => ∃ D, cls = .ref D ∧ d = none ∧ ExcC K D ∧ rIsE K D a xs H Q
theorem call_isEx {a : Addr} {cls : Value} {d : Option Addr} {oe : Obj} {pn : List (Addr × Obj)} (hz : Zc cls d oe) (hf : ∃ vs, oe.data = .fields vs) : CallR (X.suite a ((a, oe) :: pn)) (.builtin "isinstance") (rIsEx X.K a cls d) := by
  intro pins s σ H xs us Q I r h
  obtain ⟨D, rfl, rfl, C, h⟩ := h
  exact call_isE C hz hf pins s σ H xs us Q I r h
end
theorem kit_self {K : PySem.W.Frag} {D : Addr} : PySem.W.kitOne K (.ref D) (.ref D) = some true := by
  unfold PySem.W.kitOne
  rw [if_pos (by simp)]
theorem kit_no {K : PySem.W.Frag} {D C : Addr} (h : PySem.W.subIn K (.ref D) (.ref C) = some false) (hs : PySem.W.subIn K (.ref C) (.ref C) = some true) (h2 : PySem.W.isClsIn K C = true) (h3 : PySem.W.typeIn K (.ref C) = some (.type "type")) :
    PySem.W.kitOne K (.ref D) (.ref C) = some false := by
  have ne : ¬ ((Value.ref D == Value.ref C) = true) := fun e => by
    have e' : D = C := by simpa using e
    subst e'
    rw [h] at hs
    exact nomatch hs
  have e2 : ((PySem.W.clsIn K C).isSome && PySem.W.typeIn K (.ref C) == some (.type "type")) = true := by
    have h2' : (PySem.W.clsIn K C).isSome = true := h2
    rw [h2', h3] <;> rfl
  unfold PySem.W.kitOne
  rw [if_neg ne]
  show (if ((PySem.W.clsIn K C).isSome && PySem.W.typeIn K (.ref C) == some (.type "type")) = true then PySem.W.subIn K (.ref D) (.ref C) else none) = some false
  rw [if_pos e2]
  exact h
theorem kit_sub {K : PySem.W.Frag} {D C : Addr} {b : Bool} (h : PySem.W.subIn K (.ref D) (.ref C) = some b) (hs : b = false → PySem.W.subIn K (.ref C) (.ref C) = some true) (h2 : PySem.W.isClsIn K C = true) (h3 : PySem.W.typeIn K (.ref C) = some (.type "type")) :
    PySem.W.kitOne K (.ref D) (.ref C) = some b := by
  cases b with
  | false => exact kit_no h (hs rfl) h2 h3
  | true =>
    have e2 : ((PySem.W.clsIn K C).isSome && PySem.W.typeIn K (.ref C) == some (.type "type")) = true := by
      have h2' : (PySem.W.clsIn K C).isSome = true := h2
      rw [h2', h3] <;> rfl
    unfold PySem.W.kitOne
    split
    · rfl
    · show (if ((PySem.W.clsIn K C).isSome && PySem.W.typeIn K (.ref C) == some (.type "type")) = true then PySem.W.subIn K (.ref D) (.ref C) else none) = some true
      rw [if_pos e2]
      exact h
theorem kit_bt {K : PySem.W.Frag} {D : Addr} {n : String} {b : Bool} (hm : PySem.W.kitMeta n = true) (h : PySem.W.subIn K (.ref D) (.type n) = some b) : PySem.W.kitOne K (.ref D) (.type n) = some b := by
  unfold PySem.W.kitOne
  rw [if_neg (by simp)]
  show (if PySem.W.kitMeta n = true then PySem.W.subIn K (.ref D) (.type n) else none) = some b
  rw [if_pos hm]
  exact h
/-! ### a method that may raise, called in a try -/
section
variable {X : Cx} {CX : CXT} {k : Nat} {f C : Addr} {fd : FuncData} {ps : List Str} {sp : Sp} {E : St → XK} {m : Str} {pos apos : Pos} {e o : Expr} {es : List Expr} {ta : TE} {t : TA}
def tMethE (C : Addr) (m : Str) (sp : Sp) (E : St → XK) (ta : TE) (t : TA) : TE := fun σ H Q => ta σ H fun x H1 => ∃ a dx fs, x = .ref a ∧ H1 a = some (.ins C dx fs) ∧ fs.lookup m = none ∧ t σ H1 fun vs H2 => sp (x :: vs) H2 Q (E σ)
theorem pe_methE0 {pl : Sem Bool} (he : PE X o ta) (c : Cls X.K C) (hm : Meth X.K C m f) (F : FnOk X.prog X.w X.K X.mg X.base CX k f fd ps sp) (hr : Room k X.A) (hb : Binds X.K fd ps []) (hx : ∀ σ, PassesAt CX X σ (E σ))
    (ht : eval (.Call (.Attribute o m apos) [] [] pos) X.env = (do
      let ov ← eval o X.env
      standAt apos.atName
      let (f, first) ← holding [ov] (getMethod ov m pl)
      callWith pos f first (backTo pos (starEach [] X.env)) (backToKw pos (keywordEach [] X.env))) := by rfl) :
    PE X (.Call (.Attribute o m apos) [] [] pos) (tMethE C m sp E ta tNil) := by
  refine ⟨fun pins s σ H Q I h => ?_⟩
  refine PySem.W.methodCall_KW (pl := pl) (thn (he.run pins s σ H _ I h) fun u s1 ⟨x, H1, I1, rx, a, dx, fs, ex, ea, l, q⟩ => ?_) ht
  subst ex
  obtain rfl : u = Value.ref a := rx
  refine getmeth_ok I1 ea c hm l ?_
  exact PySem.W.callWith_K0 (first := [.ref a]) I1.kIn hm.kp (run_fnS (us := [.ref a]) (vs := [.ref a]) F hr hb (hx σ) I1 (.cons rfl .nil) q)
theorem pe_methE {pl : Sem Bool} (he : PE X o ta) (c : Cls X.K C) (hm : Meth X.K C m f) (F : FnOk X.prog X.w X.K X.mg X.base CX k f fd ps sp) (hr : Room k X.A) (hb : Binds X.K fd ps []) (hx : ∀ σ, PassesAt CX X σ (E σ)) (ha : PA X (e :: es) t)
    (hst : starEach (e :: es) X.env = (false, eval e X.env) :: starEach es X.env := by rfl) (hpl : (backTo pos (starEach es X.env)).any (·.1) = false := by rfl)
    (ht : eval (.Call (.Attribute o m apos) (e :: es) [] pos) X.env = (do
      let ov ← eval o X.env
      standAt apos.atName
      let (f, first) ← holding [ov] (getMethod ov m pl)
      callWith pos f first (backTo pos (starEach (e :: es) X.env)) (backToKw pos (keywordEach [] X.env))) := by rfl) :
    PE X (.Call (.Attribute o m apos) (e :: es) [] pos) (tMethE C m sp E ta t) := by
  refine ⟨fun pins s σ H Q I h => ?_⟩
  refine PySem.W.methodCall_KW (pl := pl) (thn (he.run pins s σ H _ I h) fun u s1 ⟨x, H1, I1, rx, a, dx, fs, ex, ea, l, q⟩ => ?_) ht
  subst ex
  obtain rfl : u = Value.ref a := rx
  refine getmeth_ok I1 ea c hm l ?_
  refine PySem.W.callWith_K (first := [.ref a]) (h₀ := X.base) I.ok.mod.kin hm.kp (thn (ha.run pos pins s1 σ H1 _ I1 q) fun us s2 ⟨vs, H2, I2, r, q2⟩ => ⟨I2.kIn, ?_⟩) hst hpl
  exact run_fnS (us := .ref a :: us) (vs := .ref a :: vs) F hr hb (hx σ) I2 (.cons rfl r) q2
end
def spNever : Sp := fun _ _ _ _ => False
theorem tyx_tup {K : PySem.W.Frag} {H : Hp} {a : Addr} {xs : List V} (h : SqT K H a xs) : TyX K H (.ref a) (.type "tuple") := by
  rcases h with (h | ⟨o, h⟩) | ⟨o, its, n, hk, hc, _⟩
  · exact .base (.tup h)
  · exact .fTuple h
  · exact .kTuple hk hc

def top (i : Nat) : Stmt := PySem.Challenge.pw_windowada_k69_trap_handlers.main.body.getD i (.Pass ⟨0, 0, 0, 0⟩)
abbrev s_encode : Stmt := top 9
abbrev s_bits_of : Stmt := top 10
abbrev s_trap_code : Stmt := top 17
abbrev s_spill : Stmt := top 18
abbrev s_fill : Stmt := top 19
abbrev s_moves : Stmt := top 20
abbrev s_Banks___init__ : Stmt := inClass (top 22) 0
abbrev s_Banks_read : Stmt := inClass (top 22) 1
abbrev s_Banks_write : Stmt := inClass (top 22) 2
abbrev s_Banks_shift_down : Stmt := inClass (top 22) 3
abbrev s_Banks_shift_up : Stmt := inClass (top 22) 4
abbrev s_Banks_blocked_down : Stmt := inClass (top 22) 5
abbrev s_Banks_blocked_up : Stmt := inClass (top 22) 6
abbrev s_Banks_set_bar : Stmt := inClass (top 22) 7
abbrev s_Banks_trap_down : Stmt := inClass (top 22) 8
abbrev s_Banks_trap_up : Stmt := inClass (top 22) 9
abbrev s_Banks_leave_trap : Stmt := inClass (top 22) 10
abbrev s_Banks__begin_trap : Stmt := inClass (top 22) 11
abbrev s_Banks__go_down : Stmt := inClass (top 22) 12
abbrev s_Banks__window_below : Stmt := inClass (top 22) 13
abbrev s_Banks__window_above : Stmt := inClass (top 22) 14
abbrev s_empty_view : Stmt := top 26
abbrev s_locals_and_ins : Stmt := top 27
abbrev s_view_below : Stmt := top 28
abbrev s_view_above : Stmt := top 29
abbrev s_Ring___init__ : Stmt := inClass (top 32) 0
abbrev s_Ring_read : Stmt := inClass (top 32) 1
abbrev s_Ring_write : Stmt := inClass (top 32) 2
abbrev s_Ring_shift_down : Stmt := inClass (top 32) 3
abbrev s_Ring_shift_up : Stmt := inClass (top 32) 4
abbrev s_Ring_blocked_down : Stmt := inClass (top 32) 5
abbrev s_Ring_blocked_up : Stmt := inClass (top 32) 6
abbrev s_Ring__spill : Stmt := inClass (top 32) 7
abbrev s_Ring__fill : Stmt := inClass (top 32) 8
abbrev s_Ring__save_area : Stmt := inClass (top 32) 9
abbrev s_law_pick : Stmt := top 34
abbrev s_law_is_integer : Stmt := top 35
abbrev s_law_word : Stmt := top 36
abbrev s_law_spill : Stmt := top 37
abbrev s_law_fill : Stmt := top 38
abbrev s_law_words : Stmt := top 39
abbrev s_law_value : Stmt := top 40
abbrev s_law_handle : Stmt := top 41
abbrev s_law_down : Stmt := top 42
abbrev s_law_up : Stmt := top 43
abbrev s_law_both : Stmt := top 44
abbrev s_law_same : Stmt := top 45
abbrev s_law_deed : Stmt := top 46
abbrev s_law : Stmt := top 47
theorem sc_encode : FnScope ["instruction", "name", "word", "field", "part"] ["instruction"] (defScope s_encode) := ⟨rfl, rfl, rfl, by decide +kernel, rfl, by decide +kernel, by decide +kernel⟩
theorem sc_bits_of : FnScope ["field", "part", "kind", "number", "shift", "many", "low", "high", "bits"] ["field", "part"] (defScope s_bits_of) := ⟨rfl, rfl, rfl, by decide +kernel, rfl, by decide +kernel, by decide +kernel⟩
theorem sc_trap_code : FnScope ["windows", "one"] ["windows"] (defScope s_trap_code) := ⟨rfl, rfl, rfl, by decide +kernel, rfl, by decide +kernel, by decide +kernel⟩
theorem sc_spill : FnScope ["windows"] ["windows"] (defScope s_spill) := ⟨rfl, rfl, rfl, by decide +kernel, rfl, by decide +kernel, by decide +kernel⟩
theorem sc_fill : FnScope ["windows"] ["windows"] (defScope s_fill) := ⟨rfl, rfl, rfl, by decide +kernel, rfl, by decide +kernel, by decide +kernel⟩
theorem sc_moves : FnScope ["name", "at"] ["name"] (defScope s_moves) := ⟨rfl, rfl, rfl, by decide +kernel, rfl, by decide +kernel, by decide +kernel⟩
theorem sc_Banks___init__ : FnScope ["self", "windows", "_"] ["self", "windows"] (defScope s_Banks___init__) := ⟨rfl, rfl, rfl, by decide +kernel, rfl, by decide +kernel, by decide +kernel⟩
theorem sc_Banks_read : FnScope ["self", "number"] ["self", "number"] (defScope s_Banks_read) := ⟨rfl, rfl, rfl, by decide +kernel, rfl, by decide +kernel, by decide +kernel⟩
theorem sc_Banks_write : FnScope ["self", "number", "word"] ["self", "number", "word"] (defScope s_Banks_write) := ⟨rfl, rfl, rfl, by decide +kernel, rfl, by decide +kernel, by decide +kernel⟩
theorem sc_Banks_shift_down : FnScope ["self"] ["self"] (defScope s_Banks_shift_down) := ⟨rfl, rfl, rfl, by decide +kernel, rfl, by decide +kernel, by decide +kernel⟩
theorem sc_Banks_shift_up : FnScope ["self"] ["self"] (defScope s_Banks_shift_up) := ⟨rfl, rfl, rfl, by decide +kernel, rfl, by decide +kernel, by decide +kernel⟩
theorem sc_Banks_blocked_down : FnScope ["self"] ["self"] (defScope s_Banks_blocked_down) := ⟨rfl, rfl, rfl, by decide +kernel, rfl, by decide +kernel, by decide +kernel⟩
theorem sc_Banks_blocked_up : FnScope ["self"] ["self"] (defScope s_Banks_blocked_up) := ⟨rfl, rfl, rfl, by decide +kernel, rfl, by decide +kernel, by decide +kernel⟩
theorem sc_Banks_set_bar : FnScope ["self", "number"] ["self", "number"] (defScope s_Banks_set_bar) := ⟨rfl, rfl, rfl, by decide +kernel, rfl, by decide +kernel, by decide +kernel⟩
theorem sc_Banks_trap_down : FnScope ["self", "address"] ["self", "address"] (defScope s_Banks_trap_down) := ⟨rfl, rfl, rfl, by decide +kernel, rfl, by decide +kernel, by decide +kernel⟩
theorem sc_Banks_trap_up : FnScope ["self", "address"] ["self", "address"] (defScope s_Banks_trap_up) := ⟨rfl, rfl, rfl, by decide +kernel, rfl, by decide +kernel, by decide +kernel⟩
theorem sc_Banks_leave_trap : FnScope ["self", "address"] ["self"] (defScope s_Banks_leave_trap) := ⟨rfl, rfl, rfl, by decide +kernel, rfl, by decide +kernel, by decide +kernel⟩
theorem sc_Banks__begin_trap : FnScope ["self", "address"] ["self", "address"] (defScope s_Banks__begin_trap) := ⟨rfl, rfl, rfl, by decide +kernel, rfl, by decide +kernel, by decide +kernel⟩
theorem sc_Banks__go_down : FnScope ["self"] ["self"] (defScope s_Banks__go_down) := ⟨rfl, rfl, rfl, by decide +kernel, rfl, by decide +kernel, by decide +kernel⟩
theorem sc_Banks__window_below : FnScope ["self"] ["self"] (defScope s_Banks__window_below) := ⟨rfl, rfl, rfl, by decide +kernel, rfl, by decide +kernel, by decide +kernel⟩
theorem sc_Banks__window_above : FnScope ["self"] ["self"] (defScope s_Banks__window_above) := ⟨rfl, rfl, rfl, by decide +kernel, rfl, by decide +kernel, by decide +kernel⟩
theorem sc_empty_view : FnScope [] [] (defScope s_empty_view) := ⟨rfl, rfl, rfl, by decide +kernel, rfl, by decide +kernel, by decide +kernel⟩
theorem sc_locals_and_ins : FnScope ["view"] ["view"] (defScope s_locals_and_ins) := ⟨rfl, rfl, rfl, by decide +kernel, rfl, by decide +kernel, by decide +kernel⟩
theorem sc_view_below : FnScope ["view"] ["view"] (defScope s_view_below) := ⟨rfl, rfl, rfl, by decide +kernel, rfl, by decide +kernel, by decide +kernel⟩
theorem sc_view_above : FnScope ["view", "words"] ["view", "words"] (defScope s_view_above) := ⟨rfl, rfl, rfl, by decide +kernel, rfl, by decide +kernel, by decide +kernel⟩
theorem sc_Ring___init__ : FnScope ["self", "memory", "windows"] ["self", "memory", "windows"] (defScope s_Ring___init__) := ⟨rfl, rfl, rfl, by decide +kernel, rfl, by decide +kernel, by decide +kernel⟩
theorem sc_Ring_read : FnScope ["self", "number"] ["self", "number"] (defScope s_Ring_read) := ⟨rfl, rfl, rfl, by decide +kernel, rfl, by decide +kernel, by decide +kernel⟩
theorem sc_Ring_write : FnScope ["self", "number", "word"] ["self", "number", "word"] (defScope s_Ring_write) := ⟨rfl, rfl, rfl, by decide +kernel, rfl, by decide +kernel, by decide +kernel⟩
theorem sc_Ring_shift_down : FnScope ["self"] ["self"] (defScope s_Ring_shift_down) := ⟨rfl, rfl, rfl, by decide +kernel, rfl, by decide +kernel, by decide +kernel⟩
theorem sc_Ring_shift_up : FnScope ["self"] ["self"] (defScope s_Ring_shift_up) := ⟨rfl, rfl, rfl, by decide +kernel, rfl, by decide +kernel, by decide +kernel⟩
theorem sc_Ring_blocked_down : FnScope ["self"] ["self"] (defScope s_Ring_blocked_down) := ⟨rfl, rfl, rfl, by decide +kernel, rfl, by decide +kernel, by decide +kernel⟩
theorem sc_Ring_blocked_up : FnScope ["self"] ["self"] (defScope s_Ring_blocked_up) := ⟨rfl, rfl, rfl, by decide +kernel, rfl, by decide +kernel, by decide +kernel⟩
theorem sc_Ring__spill : FnScope ["self", "below", "start"] ["self"] (defScope s_Ring__spill) := ⟨rfl, rfl, rfl, by decide +kernel, rfl, by decide +kernel, by decide +kernel⟩
theorem sc_Ring__fill : FnScope ["self", "start"] ["self"] (defScope s_Ring__fill) := ⟨rfl, rfl, rfl, by decide +kernel, rfl, by decide +kernel, by decide +kernel⟩
theorem sc_Ring__save_area : FnScope ["self", "start"] ["self", "start"] (defScope s_Ring__save_area) := ⟨rfl, rfl, rfl, by decide +kernel, rfl, by decide +kernel, by decide +kernel⟩
theorem sc_law_pick : FnScope ["state", "limit", "digit", "cell", "mixed"] ["state", "limit"] (defScope s_law_pick) := ⟨rfl, rfl, rfl, by decide +kernel, rfl, by decide +kernel, by decide +kernel⟩
theorem sc_law_is_integer : FnScope ["actual"] ["actual"] (defScope s_law_is_integer) := ⟨rfl, rfl, rfl, by decide +kernel, rfl, by decide +kernel, by decide +kernel⟩
theorem sc_law_word : FnScope ["state", "choice"] ["state"] (defScope s_law_word) := ⟨rfl, rfl, rfl, by decide +kernel, rfl, by decide +kernel, by decide +kernel⟩
theorem sc_law_spill : FnScope ["windows", "rows", "k"] ["windows"] (defScope s_law_spill) := ⟨rfl, rfl, rfl, by decide +kernel, rfl, by decide +kernel, by decide +kernel⟩
theorem sc_law_fill : FnScope ["windows", "rows", "k"] ["windows"] (defScope s_law_fill) := ⟨rfl, rfl, rfl, by decide +kernel, rfl, by decide +kernel, by decide +kernel⟩
theorem sc_law_words : FnScope ["told", "rows", "k"] ["told", "rows"] (defScope s_law_words) := ⟨rfl, rfl, rfl, by decide +kernel, rfl, by decide +kernel, by decide +kernel⟩
theorem sc_law_value : FnScope ["banks", "operand"] ["banks", "operand"] (defScope s_law_value) := ⟨rfl, rfl, rfl, by decide +kernel, rfl, by decide +kernel, by decide +kernel⟩
theorem sc_law_handle : FnScope ["banks", "memory", "rows", "address", "row", "word", "at"] ["banks", "memory", "rows", "address"] (defScope s_law_handle) := ⟨rfl, rfl, rfl, by decide +kernel, rfl, by decide +kernel, by decide +kernel⟩
theorem sc_law_down : FnScope ["state", "banks", "ring", "memory", "windows", "address"] ["state", "banks", "ring", "memory", "windows"] (defScope s_law_down) := ⟨rfl, rfl, rfl, by decide +kernel, rfl, by decide +kernel, by decide +kernel⟩
theorem sc_law_up : FnScope ["state", "banks", "ring", "memory", "windows", "address"] ["state", "banks", "ring", "memory", "windows"] (defScope s_law_up) := ⟨rfl, rfl, rfl, by decide +kernel, rfl, by decide +kernel, by decide +kernel⟩
theorem sc_law_both : FnScope ["banks", "ring", "word", "number"] ["banks", "ring", "word", "number"] (defScope s_law_both) := ⟨rfl, rfl, rfl, by decide +kernel, rfl, by decide +kernel, by decide +kernel⟩
theorem sc_law_same : FnScope ["banks", "ring", "memories", "number", "word", "other", "told"] ["banks", "ring", "memories"] (defScope s_law_same) := ⟨rfl, rfl, rfl, by decide +kernel, rfl, by decide +kernel, by decide +kernel⟩
theorem sc_law_deed : FnScope ["state", "banks", "ring", "memories", "windows", "shape", "choice", "number"] ["state", "banks", "ring", "memories", "windows", "shape"] (defScope s_law_deed) := ⟨rfl, rfl, rfl, by decide +kernel, rfl, by decide +kernel, by decide +kernel⟩
theorem sc_law : FnScope ["script", "state", "windows", "code", "step", "size", "junk", "memories", "k", "banks", "ring", "shape", "turn"] ["script"] (defScope s_law) := ⟨rfl, rfl, rfl, by decide +kernel, rfl, by decide +kernel, by decide +kernel⟩
structure Ad where
  f_encode : Addr
  d_encode : FuncData
  f_bits_of : Addr
  d_bits_of : FuncData
  f_trap_code : Addr
  d_trap_code : FuncData
  f_spill : Addr
  d_spill : FuncData
  f_fill : Addr
  d_fill : FuncData
  f_moves : Addr
  d_moves : FuncData
  f_Banks___init__ : Addr
  d_Banks___init__ : FuncData
  f_Banks_read : Addr
  d_Banks_read : FuncData
  f_Banks_write : Addr
  d_Banks_write : FuncData
  f_Banks_shift_down : Addr
  d_Banks_shift_down : FuncData
  f_Banks_shift_up : Addr
  d_Banks_shift_up : FuncData
  f_Banks_blocked_down : Addr
  d_Banks_blocked_down : FuncData
  f_Banks_blocked_up : Addr
  d_Banks_blocked_up : FuncData
  f_Banks_set_bar : Addr
  d_Banks_set_bar : FuncData
  f_Banks_trap_down : Addr
  d_Banks_trap_down : FuncData
  f_Banks_trap_up : Addr
  d_Banks_trap_up : FuncData
  f_Banks_leave_trap : Addr
  d_Banks_leave_trap : FuncData
  f_Banks__begin_trap : Addr
  d_Banks__begin_trap : FuncData
  f_Banks__go_down : Addr
  d_Banks__go_down : FuncData
  f_Banks__window_below : Addr
  d_Banks__window_below : FuncData
  f_Banks__window_above : Addr
  d_Banks__window_above : FuncData
  f_empty_view : Addr
  d_empty_view : FuncData
  f_locals_and_ins : Addr
  d_locals_and_ins : FuncData
  f_view_below : Addr
  d_view_below : FuncData
  f_view_above : Addr
  d_view_above : FuncData
  f_Ring___init__ : Addr
  d_Ring___init__ : FuncData
  f_Ring_read : Addr
  d_Ring_read : FuncData
  f_Ring_write : Addr
  d_Ring_write : FuncData
  f_Ring_shift_down : Addr
  d_Ring_shift_down : FuncData
  f_Ring_shift_up : Addr
  d_Ring_shift_up : FuncData
  f_Ring_blocked_down : Addr
  d_Ring_blocked_down : FuncData
  f_Ring_blocked_up : Addr
  d_Ring_blocked_up : FuncData
  f_Ring__spill : Addr
  d_Ring__spill : FuncData
  f_Ring__fill : Addr
  d_Ring__fill : FuncData
  f_Ring__save_area : Addr
  d_Ring__save_area : FuncData
  f_law_pick : Addr
  d_law_pick : FuncData
  f_law_is_integer : Addr
  d_law_is_integer : FuncData
  f_law_word : Addr
  d_law_word : FuncData
  f_law_spill : Addr
  d_law_spill : FuncData
  f_law_fill : Addr
  d_law_fill : FuncData
  f_law_words : Addr
  d_law_words : FuncData
  f_law_value : Addr
  d_law_value : FuncData
  f_law_handle : Addr
  d_law_handle : FuncData
  f_law_down : Addr
  d_law_down : FuncData
  f_law_up : Addr
  d_law_up : FuncData
  f_law_both : Addr
  d_law_both : FuncData
  f_law_same : Addr
  d_law_same : FuncData
  f_law_deed : Addr
  d_law_deed : FuncData
  f_law : Addr
  d_law : FuncData
  c_FIELDS : Addr
  c_FIELDS_d : Addr
  c_FIELDS_a : Addr
  c_FIELDS_reg : Addr
  c_FIELDS_int : Addr
  c_FIELDS_part : Addr
  c_FIELDS_far : Addr
  c_FIELDS_distance : Addr
  c_FIELDS_number : Addr
  t_FIRST_IN : Tok
  t_FIRST_LOCAL : Tok
  t_FIRST_OUT : Tok
  t_FLAG : Tok
  c_FORMS : Addr
  c_FORMS_halt : Addr
  c_FORMS_add : Addr
  c_FORMS_sub : Addr
  c_FORMS_mul : Addr
  c_FORMS_div : Addr
  c_FORMS_mod : Addr
  c_FORMS_rem : Addr
  c_FORMS_less : Addr
  c_FORMS_equal : Addr
  c_FORMS_high : Addr
  c_FORMS_low : Addr
  c_FORMS_load : Addr
  c_FORMS_store : Addr
  c_FORMS_jump : Addr
  c_FORMS_branch : Addr
  c_FORMS_call : Addr
  c_FORMS_save : Addr
  c_FORMS_restore : Addr
  c_FORMS_back : Addr
  c_FORMS_raise : Addr
  c_FORMS_again : Addr
  c_FORMS_tick : Addr
  c_FORMS_put : Addr
  c_FORMS_get : Addr
  c_FORMS_below : Addr
  c_FORMS_above : Addr
  c_FORMS_bar : Addr
  c_FORMS_setbar : Addr
  c_FORMS_retry : Addr
  c_NAMES : Addr
  t_NAME_SHIFT : Tok
  t_POINTER : Tok
  t_SAVED : Tok
  t_STACK : Tok
  C_Ring : Addr
  C_Banks : Addr
  C_Fault : Addr
  C_AdaError : Addr
  C_ImageError : Addr
structure Txt (w : World) (K : PySem.W.Frag) (mg : Str → Option Value) (a : Ad) : Prop where
  g_encode : mg "encode" = some (.ref a.f_encode)
  F_encode : Fun K "encode" "encode" s_encode a.f_encode a.d_encode
  k_encode : PySem.W.keepIn K (.ref a.f_encode) = true
  bd_encode : Binds K a.d_encode ["instruction"] []
  g__bits_of : mg "_bits_of" = some (.ref a.f_bits_of)
  F__bits_of : Fun K "_bits_of" "_bits_of" s_bits_of a.f_bits_of a.d_bits_of
  k__bits_of : PySem.W.keepIn K (.ref a.f_bits_of) = true
  bd__bits_of : Binds K a.d_bits_of ["field", "part"] []
  g_trap_code : mg "trap_code" = some (.ref a.f_trap_code)
  F_trap_code : Fun K "trap_code" "trap_code" s_trap_code a.f_trap_code a.d_trap_code
  k_trap_code : PySem.W.keepIn K (.ref a.f_trap_code) = true
  bd_trap_code : Binds K a.d_trap_code ["windows"] []
  g__spill : mg "_spill" = some (.ref a.f_spill)
  F__spill : Fun K "_spill" "_spill" s_spill a.f_spill a.d_spill
  k__spill : PySem.W.keepIn K (.ref a.f_spill) = true
  bd__spill : Binds K a.d_spill ["windows"] []
  g__fill : mg "_fill" = some (.ref a.f_fill)
  F__fill : Fun K "_fill" "_fill" s_fill a.f_fill a.d_fill
  k__fill : PySem.W.keepIn K (.ref a.f_fill) = true
  bd__fill : Binds K a.d_fill ["windows"] []
  g__moves : mg "_moves" = some (.ref a.f_moves)
  F__moves : Fun K "_moves" "_moves" s_moves a.f_moves a.d_moves
  k__moves : PySem.W.keepIn K (.ref a.f_moves) = true
  bd__moves : Binds K a.d_moves ["name"] []
  F_Banks___init__ : Fun K "__init__" "Banks.__init__" s_Banks___init__ a.f_Banks___init__ a.d_Banks___init__
  k_Banks___init__ : PySem.W.keepIn K (.ref a.f_Banks___init__) = true
  bd_Banks___init__ : Binds K a.d_Banks___init__ ["self", "windows"] []
  F_Banks_read : Fun K "read" "Banks.read" s_Banks_read a.f_Banks_read a.d_Banks_read
  k_Banks_read : PySem.W.keepIn K (.ref a.f_Banks_read) = true
  bd_Banks_read : Binds K a.d_Banks_read ["self", "number"] []
  F_Banks_write : Fun K "write" "Banks.write" s_Banks_write a.f_Banks_write a.d_Banks_write
  k_Banks_write : PySem.W.keepIn K (.ref a.f_Banks_write) = true
  bd_Banks_write : Binds K a.d_Banks_write ["self", "number", "word"] []
  F_Banks_shift_down : Fun K "shift_down" "Banks.shift_down" s_Banks_shift_down a.f_Banks_shift_down a.d_Banks_shift_down
  k_Banks_shift_down : PySem.W.keepIn K (.ref a.f_Banks_shift_down) = true
  bd_Banks_shift_down : Binds K a.d_Banks_shift_down ["self"] []
  F_Banks_shift_up : Fun K "shift_up" "Banks.shift_up" s_Banks_shift_up a.f_Banks_shift_up a.d_Banks_shift_up
  k_Banks_shift_up : PySem.W.keepIn K (.ref a.f_Banks_shift_up) = true
  bd_Banks_shift_up : Binds K a.d_Banks_shift_up ["self"] []
  F_Banks_blocked_down : Fun K "blocked_down" "Banks.blocked_down" s_Banks_blocked_down a.f_Banks_blocked_down a.d_Banks_blocked_down
  k_Banks_blocked_down : PySem.W.keepIn K (.ref a.f_Banks_blocked_down) = true
  bd_Banks_blocked_down : Binds K a.d_Banks_blocked_down ["self"] []
  F_Banks_blocked_up : Fun K "blocked_up" "Banks.blocked_up" s_Banks_blocked_up a.f_Banks_blocked_up a.d_Banks_blocked_up
  k_Banks_blocked_up : PySem.W.keepIn K (.ref a.f_Banks_blocked_up) = true
  bd_Banks_blocked_up : Binds K a.d_Banks_blocked_up ["self"] []
  F_Banks_set_bar : Fun K "set_bar" "Banks.set_bar" s_Banks_set_bar a.f_Banks_set_bar a.d_Banks_set_bar
  k_Banks_set_bar : PySem.W.keepIn K (.ref a.f_Banks_set_bar) = true
  bd_Banks_set_bar : Binds K a.d_Banks_set_bar ["self", "number"] []
  F_Banks_trap_down : Fun K "trap_down" "Banks.trap_down" s_Banks_trap_down a.f_Banks_trap_down a.d_Banks_trap_down
  k_Banks_trap_down : PySem.W.keepIn K (.ref a.f_Banks_trap_down) = true
  bd_Banks_trap_down : Binds K a.d_Banks_trap_down ["self", "address"] []
  F_Banks_trap_up : Fun K "trap_up" "Banks.trap_up" s_Banks_trap_up a.f_Banks_trap_up a.d_Banks_trap_up
  k_Banks_trap_up : PySem.W.keepIn K (.ref a.f_Banks_trap_up) = true
  bd_Banks_trap_up : Binds K a.d_Banks_trap_up ["self", "address"] []
  F_Banks_leave_trap : Fun K "leave_trap" "Banks.leave_trap" s_Banks_leave_trap a.f_Banks_leave_trap a.d_Banks_leave_trap
  k_Banks_leave_trap : PySem.W.keepIn K (.ref a.f_Banks_leave_trap) = true
  bd_Banks_leave_trap : Binds K a.d_Banks_leave_trap ["self"] []
  F_Banks__begin_trap : Fun K "_begin_trap" "Banks._begin_trap" s_Banks__begin_trap a.f_Banks__begin_trap a.d_Banks__begin_trap
  k_Banks__begin_trap : PySem.W.keepIn K (.ref a.f_Banks__begin_trap) = true
  bd_Banks__begin_trap : Binds K a.d_Banks__begin_trap ["self", "address"] []
  F_Banks__go_down : Fun K "_go_down" "Banks._go_down" s_Banks__go_down a.f_Banks__go_down a.d_Banks__go_down
  k_Banks__go_down : PySem.W.keepIn K (.ref a.f_Banks__go_down) = true
  bd_Banks__go_down : Binds K a.d_Banks__go_down ["self"] []
  F_Banks__window_below : Fun K "_window_below" "Banks._window_below" s_Banks__window_below a.f_Banks__window_below a.d_Banks__window_below
  k_Banks__window_below : PySem.W.keepIn K (.ref a.f_Banks__window_below) = true
  bd_Banks__window_below : Binds K a.d_Banks__window_below ["self"] []
  F_Banks__window_above : Fun K "_window_above" "Banks._window_above" s_Banks__window_above a.f_Banks__window_above a.d_Banks__window_above
  k_Banks__window_above : PySem.W.keepIn K (.ref a.f_Banks__window_above) = true
  bd_Banks__window_above : Binds K a.d_Banks__window_above ["self"] []
  g_empty_view : mg "empty_view" = some (.ref a.f_empty_view)
  F_empty_view : Fun K "empty_view" "empty_view" s_empty_view a.f_empty_view a.d_empty_view
  k_empty_view : PySem.W.keepIn K (.ref a.f_empty_view) = true
  bd_empty_view : Binds K a.d_empty_view [] []
  g_locals_and_ins : mg "locals_and_ins" = some (.ref a.f_locals_and_ins)
  F_locals_and_ins : Fun K "locals_and_ins" "locals_and_ins" s_locals_and_ins a.f_locals_and_ins a.d_locals_and_ins
  k_locals_and_ins : PySem.W.keepIn K (.ref a.f_locals_and_ins) = true
  bd_locals_and_ins : Binds K a.d_locals_and_ins ["view"] []
  g_view_below : mg "view_below" = some (.ref a.f_view_below)
  F_view_below : Fun K "view_below" "view_below" s_view_below a.f_view_below a.d_view_below
  k_view_below : PySem.W.keepIn K (.ref a.f_view_below) = true
  bd_view_below : Binds K a.d_view_below ["view"] []
  g_view_above : mg "view_above" = some (.ref a.f_view_above)
  F_view_above : Fun K "view_above" "view_above" s_view_above a.f_view_above a.d_view_above
  k_view_above : PySem.W.keepIn K (.ref a.f_view_above) = true
  bd_view_above : Binds K a.d_view_above ["view", "words"] []
  F_Ring___init__ : Fun K "__init__" "Ring.__init__" s_Ring___init__ a.f_Ring___init__ a.d_Ring___init__
  k_Ring___init__ : PySem.W.keepIn K (.ref a.f_Ring___init__) = true
  bd_Ring___init__ : Binds K a.d_Ring___init__ ["self", "memory", "windows"] []
  F_Ring_read : Fun K "read" "Ring.read" s_Ring_read a.f_Ring_read a.d_Ring_read
  k_Ring_read : PySem.W.keepIn K (.ref a.f_Ring_read) = true
  bd_Ring_read : Binds K a.d_Ring_read ["self", "number"] []
  F_Ring_write : Fun K "write" "Ring.write" s_Ring_write a.f_Ring_write a.d_Ring_write
  k_Ring_write : PySem.W.keepIn K (.ref a.f_Ring_write) = true
  bd_Ring_write : Binds K a.d_Ring_write ["self", "number", "word"] []
  F_Ring_shift_down : Fun K "shift_down" "Ring.shift_down" s_Ring_shift_down a.f_Ring_shift_down a.d_Ring_shift_down
  k_Ring_shift_down : PySem.W.keepIn K (.ref a.f_Ring_shift_down) = true
  bd_Ring_shift_down : Binds K a.d_Ring_shift_down ["self"] []
  F_Ring_shift_up : Fun K "shift_up" "Ring.shift_up" s_Ring_shift_up a.f_Ring_shift_up a.d_Ring_shift_up
  k_Ring_shift_up : PySem.W.keepIn K (.ref a.f_Ring_shift_up) = true
  bd_Ring_shift_up : Binds K a.d_Ring_shift_up ["self"] []
  F_Ring_blocked_down : Fun K "blocked_down" "Ring.blocked_down" s_Ring_blocked_down a.f_Ring_blocked_down a.d_Ring_blocked_down
  k_Ring_blocked_down : PySem.W.keepIn K (.ref a.f_Ring_blocked_down) = true
  bd_Ring_blocked_down : Binds K a.d_Ring_blocked_down ["self"] []
  F_Ring_blocked_up : Fun K "blocked_up" "Ring.blocked_up" s_Ring_blocked_up a.f_Ring_blocked_up a.d_Ring_blocked_up
  k_Ring_blocked_up : PySem.W.keepIn K (.ref a.f_Ring_blocked_up) = true
  bd_Ring_blocked_up : Binds K a.d_Ring_blocked_up ["self"] []
  F_Ring__spill : Fun K "_spill" "Ring._spill" s_Ring__spill a.f_Ring__spill a.d_Ring__spill
  k_Ring__spill : PySem.W.keepIn K (.ref a.f_Ring__spill) = true
  bd_Ring__spill : Binds K a.d_Ring__spill ["self"] []
  F_Ring__fill : Fun K "_fill" "Ring._fill" s_Ring__fill a.f_Ring__fill a.d_Ring__fill
  k_Ring__fill : PySem.W.keepIn K (.ref a.f_Ring__fill) = true
  bd_Ring__fill : Binds K a.d_Ring__fill ["self"] []
  F_Ring__save_area : Fun K "_save_area" "Ring._save_area" s_Ring__save_area a.f_Ring__save_area a.d_Ring__save_area
  k_Ring__save_area : PySem.W.keepIn K (.ref a.f_Ring__save_area) = true
  bd_Ring__save_area : Binds K a.d_Ring__save_area ["self", "start"] []
  g__law_pick : mg "_law_pick" = some (.ref a.f_law_pick)
  F__law_pick : Fun K "_law_pick" "_law_pick" s_law_pick a.f_law_pick a.d_law_pick
  k__law_pick : PySem.W.keepIn K (.ref a.f_law_pick) = true
  bd__law_pick : Binds K a.d_law_pick ["state", "limit"] []
  g__law_is_integer : mg "_law_is_integer" = some (.ref a.f_law_is_integer)
  F__law_is_integer : Fun K "_law_is_integer" "_law_is_integer" s_law_is_integer a.f_law_is_integer a.d_law_is_integer
  k__law_is_integer : PySem.W.keepIn K (.ref a.f_law_is_integer) = true
  bd__law_is_integer : Binds K a.d_law_is_integer ["actual"] []
  g__law_word : mg "_law_word" = some (.ref a.f_law_word)
  F__law_word : Fun K "_law_word" "_law_word" s_law_word a.f_law_word a.d_law_word
  k__law_word : PySem.W.keepIn K (.ref a.f_law_word) = true
  bd__law_word : Binds K a.d_law_word ["state"] []
  g__law_spill : mg "_law_spill" = some (.ref a.f_law_spill)
  F__law_spill : Fun K "_law_spill" "_law_spill" s_law_spill a.f_law_spill a.d_law_spill
  k__law_spill : PySem.W.keepIn K (.ref a.f_law_spill) = true
  bd__law_spill : Binds K a.d_law_spill ["windows"] []
  g__law_fill : mg "_law_fill" = some (.ref a.f_law_fill)
  F__law_fill : Fun K "_law_fill" "_law_fill" s_law_fill a.f_law_fill a.d_law_fill
  k__law_fill : PySem.W.keepIn K (.ref a.f_law_fill) = true
  bd__law_fill : Binds K a.d_law_fill ["windows"] []
  g__law_words : mg "_law_words" = some (.ref a.f_law_words)
  F__law_words : Fun K "_law_words" "_law_words" s_law_words a.f_law_words a.d_law_words
  k__law_words : PySem.W.keepIn K (.ref a.f_law_words) = true
  bd__law_words : Binds K a.d_law_words ["told", "rows"] []
  g__law_value : mg "_law_value" = some (.ref a.f_law_value)
  F__law_value : Fun K "_law_value" "_law_value" s_law_value a.f_law_value a.d_law_value
  k__law_value : PySem.W.keepIn K (.ref a.f_law_value) = true
  bd__law_value : Binds K a.d_law_value ["banks", "operand"] []
  g__law_handle : mg "_law_handle" = some (.ref a.f_law_handle)
  F__law_handle : Fun K "_law_handle" "_law_handle" s_law_handle a.f_law_handle a.d_law_handle
  k__law_handle : PySem.W.keepIn K (.ref a.f_law_handle) = true
  bd__law_handle : Binds K a.d_law_handle ["banks", "memory", "rows", "address"] []
  g__law_down : mg "_law_down" = some (.ref a.f_law_down)
  F__law_down : Fun K "_law_down" "_law_down" s_law_down a.f_law_down a.d_law_down
  k__law_down : PySem.W.keepIn K (.ref a.f_law_down) = true
  bd__law_down : Binds K a.d_law_down ["state", "banks", "ring", "memory", "windows"] []
  g__law_up : mg "_law_up" = some (.ref a.f_law_up)
  F__law_up : Fun K "_law_up" "_law_up" s_law_up a.f_law_up a.d_law_up
  k__law_up : PySem.W.keepIn K (.ref a.f_law_up) = true
  bd__law_up : Binds K a.d_law_up ["state", "banks", "ring", "memory", "windows"] []
  g__law_both : mg "_law_both" = some (.ref a.f_law_both)
  F__law_both : Fun K "_law_both" "_law_both" s_law_both a.f_law_both a.d_law_both
  k__law_both : PySem.W.keepIn K (.ref a.f_law_both) = true
  bd__law_both : Binds K a.d_law_both ["banks", "ring", "word", "number"] []
  g__law_same : mg "_law_same" = some (.ref a.f_law_same)
  F__law_same : Fun K "_law_same" "_law_same" s_law_same a.f_law_same a.d_law_same
  k__law_same : PySem.W.keepIn K (.ref a.f_law_same) = true
  bd__law_same : Binds K a.d_law_same ["banks", "ring", "memories"] []
  g__law_deed : mg "_law_deed" = some (.ref a.f_law_deed)
  F__law_deed : Fun K "_law_deed" "_law_deed" s_law_deed a.f_law_deed a.d_law_deed
  k__law_deed : PySem.W.keepIn K (.ref a.f_law_deed) = true
  bd__law_deed : Binds K a.d_law_deed ["state", "banks", "ring", "memories", "windows", "shape"] []
  g_law : mg "law" = some (.ref a.f_law)
  F_law : Fun K "law" "law" s_law a.f_law a.d_law
  k_law : PySem.W.keepIn K (.ref a.f_law) = true
  bd_law : Binds K a.d_law ["script"] []
  g_FIELDS : mg "FIELDS" = some (.ref a.c_FIELDS)
  kd_FIELDS_d : KDct K w a.c_FIELDS "d" (.ref a.c_FIELDS_d)
  q_FIELDS_d : ∀ H : Hp, SqT K H a.c_FIELDS_d [.int (21), .int (5), .int (0), .int (31)]
  kd_FIELDS_a : KDct K w a.c_FIELDS "a" (.ref a.c_FIELDS_a)
  q_FIELDS_a : ∀ H : Hp, SqT K H a.c_FIELDS_a [.int (16), .int (5), .int (0), .int (31)]
  kd_FIELDS_reg : KDct K w a.c_FIELDS "reg" (.ref a.c_FIELDS_reg)
  q_FIELDS_reg : ∀ H : Hp, SqT K H a.c_FIELDS_reg [.int (0), .int (15), .int (0), .int (31)]
  kd_FIELDS_int : KDct K w a.c_FIELDS "int" (.ref a.c_FIELDS_int)
  q_FIELDS_int : ∀ H : Hp, SqT K H a.c_FIELDS_int [.int (0), .int (15), .int (-16384), .int (16383)]
  kd_FIELDS_part : KDct K w a.c_FIELDS "part" (.ref a.c_FIELDS_part)
  q_FIELDS_part : ∀ H : Hp, SqT K H a.c_FIELDS_part [.int (0), .int (15), .int (0), .int (2047)]
  kd_FIELDS_far : KDct K w a.c_FIELDS "far" (.ref a.c_FIELDS_far)
  q_FIELDS_far : ∀ H : Hp, SqT K H a.c_FIELDS_far [.int (0), .int (21), .int (-1048576), .int (1048575)]
  kd_FIELDS_distance : KDct K w a.c_FIELDS "distance" (.ref a.c_FIELDS_distance)
  q_FIELDS_distance : ∀ H : Hp, SqT K H a.c_FIELDS_distance [.int (0), .int (26), .int (-33554432), .int (33554431)]
  kd_FIELDS_number : KDct K w a.c_FIELDS "number" (.ref a.c_FIELDS_number)
  q_FIELDS_number : ∀ H : Hp, SqT K H a.c_FIELDS_number [.int (0), .int (26), .int (0), .int (67108863)]
  g_FIRST_IN : mg "FIRST_IN" = some (.int (24) a.t_FIRST_IN)
  g_FIRST_LOCAL : mg "FIRST_LOCAL" = some (.int (16) a.t_FIRST_LOCAL)
  g_FIRST_OUT : mg "FIRST_OUT" = some (.int (8) a.t_FIRST_OUT)
  g_FLAG : mg "FLAG" = some (.int (32768) a.t_FLAG)
  g_FORMS : mg "FORMS" = some (.ref a.c_FORMS)
  kd_FORMS_halt : KDct K w a.c_FORMS "halt" (.ref a.c_FORMS_halt)
  q_FORMS_halt : ∀ H : Hp, SqT K H a.c_FORMS_halt []
  kd_FORMS_add : KDct K w a.c_FORMS "add" (.ref a.c_FORMS_add)
  q_FORMS_add : ∀ H : Hp, SqT K H a.c_FORMS_add [.str "d", .str "a", .str "source"]
  kd_FORMS_sub : KDct K w a.c_FORMS "sub" (.ref a.c_FORMS_sub)
  q_FORMS_sub : ∀ H : Hp, SqT K H a.c_FORMS_sub [.str "d", .str "a", .str "source"]
  kd_FORMS_mul : KDct K w a.c_FORMS "mul" (.ref a.c_FORMS_mul)
  q_FORMS_mul : ∀ H : Hp, SqT K H a.c_FORMS_mul [.str "d", .str "a", .str "source"]
  kd_FORMS_div : KDct K w a.c_FORMS "div" (.ref a.c_FORMS_div)
  q_FORMS_div : ∀ H : Hp, SqT K H a.c_FORMS_div [.str "d", .str "a", .str "source"]
  kd_FORMS_mod : KDct K w a.c_FORMS "mod" (.ref a.c_FORMS_mod)
  q_FORMS_mod : ∀ H : Hp, SqT K H a.c_FORMS_mod [.str "d", .str "a", .str "source"]
  kd_FORMS_rem : KDct K w a.c_FORMS "rem" (.ref a.c_FORMS_rem)
  q_FORMS_rem : ∀ H : Hp, SqT K H a.c_FORMS_rem [.str "d", .str "a", .str "source"]
  kd_FORMS_less : KDct K w a.c_FORMS "less" (.ref a.c_FORMS_less)
  q_FORMS_less : ∀ H : Hp, SqT K H a.c_FORMS_less [.str "d", .str "a", .str "source"]
  kd_FORMS_equal : KDct K w a.c_FORMS "equal" (.ref a.c_FORMS_equal)
  q_FORMS_equal : ∀ H : Hp, SqT K H a.c_FORMS_equal [.str "d", .str "a", .str "source"]
  kd_FORMS_high : KDct K w a.c_FORMS "high" (.ref a.c_FORMS_high)
  q_FORMS_high : ∀ H : Hp, SqT K H a.c_FORMS_high [.str "d", .str "far"]
  kd_FORMS_low : KDct K w a.c_FORMS "low" (.ref a.c_FORMS_low)
  q_FORMS_low : ∀ H : Hp, SqT K H a.c_FORMS_low [.str "d", .str "a", .str "part"]
  kd_FORMS_load : KDct K w a.c_FORMS "load" (.ref a.c_FORMS_load)
  q_FORMS_load : ∀ H : Hp, SqT K H a.c_FORMS_load [.str "d", .str "a", .str "source"]
  kd_FORMS_store : KDct K w a.c_FORMS "store" (.ref a.c_FORMS_store)
  q_FORMS_store : ∀ H : Hp, SqT K H a.c_FORMS_store [.str "d", .str "a", .str "source"]
  kd_FORMS_jump : KDct K w a.c_FORMS "jump" (.ref a.c_FORMS_jump)
  q_FORMS_jump : ∀ H : Hp, SqT K H a.c_FORMS_jump [.str "distance"]
  kd_FORMS_branch : KDct K w a.c_FORMS "branch" (.ref a.c_FORMS_branch)
  q_FORMS_branch : ∀ H : Hp, SqT K H a.c_FORMS_branch [.str "d", .str "far"]
  kd_FORMS_call : KDct K w a.c_FORMS "call" (.ref a.c_FORMS_call)
  q_FORMS_call : ∀ H : Hp, SqT K H a.c_FORMS_call [.str "number"]
  kd_FORMS_save : KDct K w a.c_FORMS "save" (.ref a.c_FORMS_save)
  q_FORMS_save : ∀ H : Hp, SqT K H a.c_FORMS_save [.str "d", .str "a", .str "source"]
  kd_FORMS_restore : KDct K w a.c_FORMS "restore" (.ref a.c_FORMS_restore)
  q_FORMS_restore : ∀ H : Hp, SqT K H a.c_FORMS_restore []
  kd_FORMS_back : KDct K w a.c_FORMS "back" (.ref a.c_FORMS_back)
  q_FORMS_back : ∀ H : Hp, SqT K H a.c_FORMS_back []
  kd_FORMS_raise : KDct K w a.c_FORMS "raise" (.ref a.c_FORMS_raise)
  q_FORMS_raise : ∀ H : Hp, SqT K H a.c_FORMS_raise [.str "number"]
  kd_FORMS_again : KDct K w a.c_FORMS "again" (.ref a.c_FORMS_again)
  q_FORMS_again : ∀ H : Hp, SqT K H a.c_FORMS_again [.str "a", .str "source"]
  kd_FORMS_tick : KDct K w a.c_FORMS "tick" (.ref a.c_FORMS_tick)
  q_FORMS_tick : ∀ H : Hp, SqT K H a.c_FORMS_tick []
  kd_FORMS_put : KDct K w a.c_FORMS "put" (.ref a.c_FORMS_put)
  q_FORMS_put : ∀ H : Hp, SqT K H a.c_FORMS_put [.str "source"]
  kd_FORMS_get : KDct K w a.c_FORMS "get" (.ref a.c_FORMS_get)
  q_FORMS_get : ∀ H : Hp, SqT K H a.c_FORMS_get [.str "d"]
  kd_FORMS_below : KDct K w a.c_FORMS "below" (.ref a.c_FORMS_below)
  q_FORMS_below : ∀ H : Hp, SqT K H a.c_FORMS_below [.str "a", .str "source"]
  kd_FORMS_above : KDct K w a.c_FORMS "above" (.ref a.c_FORMS_above)
  q_FORMS_above : ∀ H : Hp, SqT K H a.c_FORMS_above [.str "a", .str "source"]
  kd_FORMS_bar : KDct K w a.c_FORMS "bar" (.ref a.c_FORMS_bar)
  q_FORMS_bar : ∀ H : Hp, SqT K H a.c_FORMS_bar [.str "d"]
  kd_FORMS_setbar : KDct K w a.c_FORMS "setbar" (.ref a.c_FORMS_setbar)
  q_FORMS_setbar : ∀ H : Hp, SqT K H a.c_FORMS_setbar [.str "source"]
  kd_FORMS_retry : KDct K w a.c_FORMS "retry" (.ref a.c_FORMS_retry)
  q_FORMS_retry : ∀ H : Hp, SqT K H a.c_FORMS_retry []
  g_NAMES : mg "NAMES" = some (.ref a.c_NAMES)
  q_NAMES : ∀ H : Hp, SqT K H a.c_NAMES [.str "halt", .str "add", .str "sub", .str "mul", .str "div", .str "mod", .str "rem", .str "less", .str "equal", .str "high", .str "low", .str "load", .str "store", .str "jump", .str "branch", .str "call", .str "save", .str "restore", .str "back", .str "raise", .str "again", .str "tick", .str "put", .str "get", .str "below", .str "above", .str "bar", .str "setbar", .str "retry"]
  y_NAMES : ∃ o, K.lookup a.c_NAMES = some o ∧ o.cls = .type "tuple" ∧ o.dict = none
  g_NAME_SHIFT : mg "NAME_SHIFT" = some (.int (26) a.t_NAME_SHIFT)
  g_POINTER : mg "POINTER" = some (.int (14) a.t_POINTER)
  g_SAVED : mg "SAVED" = some (.int (16) a.t_SAVED)
  g_STACK : mg "STACK" = some (.int (14) a.t_STACK)
  b_bool : mg "bool" = none
  b_int : mg "int" = none
  b_isinstance : mg "isinstance" = none
  b_len : mg "len" = none
  b_range : mg "range" = none
  b_tuple : mg "tuple" = none
  b_zip : mg "zip" = none
  g_Ring : mg "Ring" = some (.ref a.C_Ring)
  cl_Ring : Cls K a.C_Ring
  mk_Ring : Mk K a.C_Ring a.f_Ring___init__
  n_Ring_depth : NoAttr K a.C_Ring "depth"
  n_Ring_spills : NoAttr K a.C_Ring "spills"
  n_Ring_fills : NoAttr K a.C_Ring "fills"
  n_Ring_resident : NoAttr K a.C_Ring "resident"
  n_Ring__memory : NoAttr K a.C_Ring "_memory"
  n_Ring__most : NoAttr K a.C_Ring "_most"
  n_Ring__view : NoAttr K a.C_Ring "_view"
  n_Ring__above : NoAttr K a.C_Ring "_above"
  m_Ring_read : Meth K a.C_Ring "read" a.f_Ring_read
  m_Ring_write : Meth K a.C_Ring "write" a.f_Ring_write
  m_Ring_shift_down : Meth K a.C_Ring "shift_down" a.f_Ring_shift_down
  m_Ring_shift_up : Meth K a.C_Ring "shift_up" a.f_Ring_shift_up
  m_Ring_blocked_down : Meth K a.C_Ring "blocked_down" a.f_Ring_blocked_down
  m_Ring_blocked_up : Meth K a.C_Ring "blocked_up" a.f_Ring_blocked_up
  m_Ring__spill : Meth K a.C_Ring "_spill" a.f_Ring__spill
  m_Ring__fill : Meth K a.C_Ring "_fill" a.f_Ring__fill
  m_Ring__save_area : Meth K a.C_Ring "_save_area" a.f_Ring__save_area
  g_Banks : mg "Banks" = some (.ref a.C_Banks)
  cl_Banks : Cls K a.C_Banks
  mk_Banks : Mk K a.C_Banks a.f_Banks___init__
  n_Banks_depth : NoAttr K a.C_Banks "depth"
  n_Banks_spills : NoAttr K a.C_Banks "spills"
  n_Banks_fills : NoAttr K a.C_Banks "fills"
  n_Banks_current : NoAttr K a.C_Banks "current"
  n_Banks_barred : NoAttr K a.C_Banks "barred"
  n_Banks__globals : NoAttr K a.C_Banks "_globals"
  n_Banks__windows : NoAttr K a.C_Banks "_windows"
  m_Banks_read : Meth K a.C_Banks "read" a.f_Banks_read
  m_Banks_write : Meth K a.C_Banks "write" a.f_Banks_write
  m_Banks_shift_down : Meth K a.C_Banks "shift_down" a.f_Banks_shift_down
  m_Banks_shift_up : Meth K a.C_Banks "shift_up" a.f_Banks_shift_up
  m_Banks_blocked_down : Meth K a.C_Banks "blocked_down" a.f_Banks_blocked_down
  m_Banks_blocked_up : Meth K a.C_Banks "blocked_up" a.f_Banks_blocked_up
  m_Banks_set_bar : Meth K a.C_Banks "set_bar" a.f_Banks_set_bar
  m_Banks_trap_down : Meth K a.C_Banks "trap_down" a.f_Banks_trap_down
  m_Banks_trap_up : Meth K a.C_Banks "trap_up" a.f_Banks_trap_up
  m_Banks_leave_trap : Meth K a.C_Banks "leave_trap" a.f_Banks_leave_trap
  m_Banks__begin_trap : Meth K a.C_Banks "_begin_trap" a.f_Banks__begin_trap
  m_Banks__go_down : Meth K a.C_Banks "_go_down" a.f_Banks__go_down
  m_Banks__window_below : Meth K a.C_Banks "_window_below" a.f_Banks__window_below
  m_Banks__window_above : Meth K a.C_Banks "_window_above" a.f_Banks__window_above
  g_Fault : mg "Fault" = some (.ref a.C_Fault)
  x_Fault : PySem.W.excIn K a.C_Fault [.type "ValueError", .type "Exception", .type "BaseException", .type "object"] "ValueError.__new__" = true
  kC_Fault : PySem.W.keepIn K (.ref a.C_Fault) = true
  s1_Fault : PySem.W.subIn K (.ref a.C_Fault) (.type "BaseException") = some true
  ty_Fault : PySem.W.typeIn K (.ref a.C_Fault) = some (.type "type")
  ic_Fault : PySem.W.isClsIn K a.C_Fault = true
  g_AdaError : mg "AdaError" = some (.ref a.C_AdaError)
  x_AdaError : PySem.W.excIn K a.C_AdaError [.type "ValueError", .type "Exception", .type "BaseException", .type "object"] "ValueError.__new__" = true
  kC_AdaError : PySem.W.keepIn K (.ref a.C_AdaError) = true
  s1_AdaError : PySem.W.subIn K (.ref a.C_AdaError) (.type "BaseException") = some true
  ty_AdaError : PySem.W.typeIn K (.ref a.C_AdaError) = some (.type "type")
  ic_AdaError : PySem.W.isClsIn K a.C_AdaError = true
  g_ImageError : mg "ImageError" = some (.ref a.C_ImageError)
  x_ImageError : PySem.W.excIn K a.C_ImageError [.type "ValueError", .type "Exception", .type "BaseException", .type "object"] "ValueError.__new__" = true
  kC_ImageError : PySem.W.keepIn K (.ref a.C_ImageError) = true
  s1_ImageError : PySem.W.subIn K (.ref a.C_ImageError) (.type "BaseException") = some true
  ty_ImageError : PySem.W.typeIn K (.ref a.C_ImageError) = some (.type "type")
  ic_ImageError : PySem.W.isClsIn K a.C_ImageError = true
/-! ### heaps that turn at some places alone -/
def Frm (S : List Addr) (H H' : Hp) : Prop := ∀ b o, H b = some o → b ∉ S → H' b = some o
theorem Frm.refl {S : List Addr} {H : Hp} : Frm S H H := fun _ _ e _ => e
theorem Frm.trans {S : List Addr} {H H1 H2 : Hp} (x : Frm S H H1) (y : Frm S H1 H2) : Frm S H H2 := fun b o e n => y b o (x b o e n) n
theorem Frm.new {S : List Addr} {H H1 : Hp} {p : Addr} {o : HO} (x : Frm S H H1) (n : H1 p = none) : Frm S H (upd H1 p o) := fun b u e m => by
  rw [upd_ne (ne_of_none (x b u e m) n)]; exact x b u e m
theorem Frm.put {S : List Addr} {H H1 : Hp} {p : Addr} {o : HO} (x : Frm S H H1) (m : p ∈ S) : Frm S H (upd H1 p o) := fun b u e h => by
  rw [upd_ne (fun z => h (by rw [z]; exact m))]; exact x b u e h
theorem Frm.mono {S S' : List Addr} {H H1 : Hp} (x : Frm S H H1) (h : ∀ b ∈ S, b ∈ S') : Frm S' H H1 := fun b u e n => x b u e fun z => n (h b z)
theorem Frm.of {S : List Addr} {H H1 : Hp} (x : Same H H1) : Frm S H H1 := fun b u e _ => x b u e
theorem Frm.same {H H1 : Hp} (x : Frm [] H H1) : Same H H1 := fun b u e => x b u e (by simp)
/-- a list that is to be read, whatever turns at b -/
def Apt (K : PySem.W.Frag) (sa : Addr) (xs : List V) (b : Addr) : Prop := b = sa → ∀ H', SqL K H' sa xs
theorem apt_new {K : PySem.W.Frag} {H : Hp} {sa b : Addr} {xs : List V} (h : SqL K H sa xs) (n : H b = none) : Apt K sa xs b := fun e H' => by
  subst e
  rcases h with (h | ⟨o, h⟩) | h
  · rw [n] at h; cases h
  · rw [n] at h; cases h
  · exact .inr h
theorem sq_frm {K : PySem.W.Frag} {S : List Addr} {H H' : Hp} {sa : Addr} {xs : List V} (h : SqL K H sa xs) (f : Frm S H H') (a : ∀ b ∈ S, Apt K sa xs b) : SqL K H' sa xs := by
  by_cases c : sa ∈ S
  · exact a sa c rfl H'
  · rcases h with (h | ⟨o, h⟩) | h
    · exact .inl (.inl (f _ _ h c))
    · exact .inl (.inr ⟨o, f _ _ h c⟩)
    · exact .inr h
/-! ### the draws -/
structure StP (K : PySem.W.Frag) (H : Hp) (st sa : Addr) (ns : List Int) : Prop where
  at' : ∃ i d n : Int, 0 ≤ i ∧ H st = some (.lst [.ref sa, .int i, .int d, .int n])
  sq : SqL K H sa (ns.map V.int)
  ap : Apt K sa (ns.map V.int) st
theorem StP.frm {K : PySem.W.Frag} {S : List Addr} {H H' : Hp} {st sa : Addr} {ns : List Int} (h : StP K H st sa ns) (f : Frm S H H') (n : st ∉ S) (a : ∀ b ∈ S, Apt K sa (ns.map V.int) b) : StP K H' st sa ns := by
  obtain ⟨i, d, k, z, e⟩ := h.at'
  exact ⟨⟨i, d, k, z, f _ _ e n⟩, sq_frm h.sq f a, h.ap⟩
theorem StP.same {K : PySem.W.Frag} {H H' : Hp} {st sa : Addr} {ns : List Int} (h : StP K H st sa ns) (f : Same H H') : StP K H' st sa ns := h.frm (S := []) (fun b o e _ => f b o e) (by simp) (by simp)
theorem StP.put {K : PySem.W.Frag} {H : Hp} {st sa : Addr} {ns : List Int} {i d n : Int} (h : StP K H st sa ns) (z : 0 ≤ i) : StP K (upd H st (.lst [.ref sa, .int i, .int d, .int n])) st sa ns :=
  ⟨⟨i, d, n, z, upd_same⟩, sq_frm h.sq (Frm.put (S := [st]) Frm.refl (by simp)) (fun b hb => by rw [List.mem_singleton.mp hb]; exact h.ap), h.ap⟩
def spPick (K : PySem.W.Frag) : Sp := fun vs H Q _ => ∃ (st sa : Addr) (ns : List Int) (m : Int), vs = [.ref st, .int m] ∧ StP K H st sa ns ∧ 0 < m ∧ m < 2 ^ 62 ∧ ∀ (v : Int) (H' : Hp), 0 ≤ v → v < m → StP K H' st sa ns → Frm [st] H H' → Q (.int v) H'
section
variable {P : Program} {w : World} {K : PySem.W.Frag} {mg : Str → Option Value} {base : Heap} {a : Ad}
theorem ok_law_pick (T : Txt w K mg a) : FnOk P w K mg base CX0 1 a.f_law_pick a.d_law_pick ["state", "limit"] (spPick K) := by
  refine T.F__law_pick.ok sc_law_pick (fun vs H Q E h => ?_) (fun cdv A outer s H vs Q E hr h => ?_)
  · obtain ⟨_, _, _, _, rfl, _⟩ := h; rfl
  · obtain ⟨st, sa, ns, m, rfl, S, hm, hm2, q⟩ := h
    have hdv : ∀ i, CDivW i m := fun i => wide_div (b := 62) hm (by omega) (by decide) (by decide)
    have hdv7 : ∀ i, CDivW i 7 := fun i => wide_div (b := 62) (by decide) (by decide) (by decide) (by decide)
    obtain ⟨i, d, n, i0, h1⟩ := S.at'
    refine ⟨_, (pss_cons (ps_asg (pe_op op_add (pe_ix ix_list (pv 0) pe_int (fun _ _ => rfl)) pe_int) (pg_sub (pv 0) pe_int set_list))
      (pss_cons (ps_if (pt_cmpR op_gt (pe_ix ix_list (pv 0) pe_int (fun _ _ => rfl)) pe_int (nomark _)) (pss_cons (ps_set (i := 2) sc_law_pick.nd rfl (Or.inl rfl) (pe_op op_mod (pe_callTy call_int1 (by rfl) T.b_int (by decide +kernel) (pa_cons (pe_ix ix_list (pv 0) pe_int (fun _ _ => rfl)) pa_nil)) (pv 1)))
      (pss_cons (ps_asg (pe_op op_fdivW (pe_ix ix_list (pv 0) pe_int (fun _ _ => rfl)) (pv 1)) (pg_sub (pv 0) pe_int set_list))
      (pss_one (ps_ret (pv 2))))) pss_nil)
      (pss_cons (ps_set (i := 3) sc_law_pick.nd rfl (Or.inl rfl) pe_int)
      (C8.pss_cut (ps_if (pt_cmpR op_lt (pe_ix ix_list (pv 0) pe_int (fun _ _ => rfl)) (pe_callB call_len_seq (by rfl) T.b_len (by decide +kernel) (pa_cons (pe_ix ix_list (pv 0) pe_int (fun _ _ => rfl)) pa_nil)) (nomark _)) (pss_one (ps_set (i := 3) sc_law_pick.nd rfl (Or.inl rfl) (pe_ix ix_list (pe_ix ix_list (pv 0) pe_int (fun _ _ => rfl)) (pe_ix ix_list (pv 0) pe_int (fun _ _ => rfl)) (fun _ _ => rfl)))) pss_nil)
      (pss_cons (ps_asg (pe_op op_add (pe_ix ix_list (pv 0) pe_int (fun _ _ => rfl)) pe_int) (pg_sub (pv 0) pe_int set_list))
      (pss_cons (ps_if (pt_cmpR op_ge (pv 3) (pe_op op_pow pe_int pe_int) (nomark _)) (pss_cons (ps_asg (pe_op op_fdivW (pv 3) (pv 1)) (pg_sub (pv 0) pe_int set_list))
      (pss_one (ps_ret (pe_op op_mod (pe_callTy call_int1 (by rfl) T.b_int (by decide +kernel) (pa_cons (pv 3) pa_nil)) (pv 1))))) pss_nil)
      (pss_cons (ps_set (i := 4) sc_law_pick.nd rfl (Or.inl rfl) (pe_op op_mod (pe_callTy call_int1 (by rfl) T.b_int (by decide +kernel) (pa_cons (pe_op op_add (pe_op op_mul (pe_op op_mod (pe_callTy call_int1 (by rfl) T.b_int (by decide +kernel) (pa_cons (pe_op op_add (pe_op op_add (pe_op op_mul (pv 3) pe_int) (pe_op op_mul (pe_ix ix_list (pv 0) pe_int (fun _ _ => rfl)) pe_int)) pe_int) pa_nil)) pe_int) pe_int) (pe_ix ix_list (pv 0) pe_int (fun _ _ => rfl))) pa_nil)) pe_int))
      (pss_one (ps_ret (pe_op op_mod (pe_callTy call_int1 (by rfl) T.b_int (by decide +kernel) (pa_cons (pe_op op_fdivW (pv 4) pe_int) pa_nil)) (pv 1))))))))))), ?_⟩
    refine ⟨_, rfl, _, _, _, _, rfl, rfl, SqL.of h1, rfl, _, _, rfl, rfl, _, rfl, _, _, _, _, rfl, rfl, h1, rfl, ?_⟩
    have S1 := S.put (d := d) (n := n + 1) i0
    have f1 : Frm [st] H (upd H st (.lst [.ref sa, .int i, .int d, .int (n + 1)])) := Frm.put Frm.refl (by simp)
    have e1 : upd H st (.lst [.ref sa, .int i, .int d, .int (n + 1)]) st = some (.lst [.ref sa, .int i, .int d, .int (n + 1)]) := upd_same
    have nu : ∀ {H2 : Hp} {o : HO}, Frm [st] H H2 → Frm [st] H (upd H2 st o) := fun f => f.put (by simp)
    refine ⟨_, rfl, _, _, _, _, rfl, rfl, SqL.of upd_same, rfl, _, _, rfl, rfl, _, rfl, ite3 (fun c1 => ?_) (fun c1 => ?_)⟩
    · refine ⟨_, rfl, _, _, _, _, rfl, rfl, SqL.of upd_same, rfl, .inl ⟨_, rfl, _, rfl, _, _, rfl, rfl, hm, ?_⟩⟩
      refine ⟨_, rfl, _, _, _, _, rfl, rfl, SqL.of upd_same, rfl, _, rfl, _, _, rfl, rfl, hdv _, _, rfl, _, _, _, _, rfl, rfl, upd_same, rfl, ?_⟩
      exact ⟨_, rfl, q _ _ (Int.emod_nonneg _ (by omega)) (Int.emod_lt_of_pos _ hm) (S1.put i0) (nu f1)⟩
    refine ⟨fun σ H2 => ∃ z : Int, σ = [some (.ref st), some (.int m), none, some (.int z), none] ∧ H2 st = some (.lst [.ref sa, .int i, .int d, .int (n + 1)]) ∧ StP K H2 st sa ns ∧ Frm [st] H H2, ?_, ?_⟩
    · refine ⟨_, rfl, _, _, _, _, rfl, rfl, SqL.of upd_same, rfl, _, rfl, _, _, _, _, rfl, rfl, SqL.of upd_same, rfl, _, _, rfl, .inl S1.sq, _, _, rfl, rfl, _, rfl, ite3 (fun c2 => ?_) (fun c2 => ?_)⟩
      · have hlt : i.toNat < ns.length := by
          have := of_decide_eq_true c2
          simp at this
          omega
        refine ⟨_, rfl, _, _, _, _, rfl, rfl, SqL.of upd_same, rfl, _, rfl, _, _, _, _, rfl, rfl, SqL.of upd_same, rfl, _, _, _, .int (ns[i.toNat]), rfl, rfl, S1.sq, ?_, ?_⟩
        · have hh := atI_nat (j := i.toNat) (xs := ns.map V.int) (v := V.int ns[i.toNat]) (by simp [hlt])
          rwa [show ((i.toNat : Nat) : Int) = i by omega] at hh
        · exact ⟨_, rfl, upd_same, S1, f1⟩
      · exact ⟨0, rfl, upd_same, S1, f1⟩
    · rintro σ H2 ⟨z, rfl, e2, S2, f2⟩
      refine ⟨_, rfl, _, _, _, _, rfl, rfl, SqL.of e2, rfl, _, _, rfl, rfl, _, rfl, _, _, _, _, rfl, rfl, e2, rfl, ?_⟩
      have S3 := S2.put (i := i + 1) (d := d) (n := n + 1) (by omega)
      refine ⟨_, rfl, _, _, rfl, rfl, ⟨by decide, by decide, by decide⟩, _, _, rfl, rfl, _, rfl, ite3 (fun c3 => ?_) (fun c3 => ?_)⟩
      · refine ⟨_, rfl, _, rfl, _, _, rfl, rfl, hdv _, _, rfl, _, _, _, _, rfl, rfl, upd_same, rfl, ?_⟩
        refine ⟨_, rfl, .inl ⟨_, rfl, _, rfl, _, _, rfl, rfl, hm, ?_⟩⟩
        exact q _ _ (Int.emod_nonneg _ (by omega)) (Int.emod_lt_of_pos _ hm) (S3.put (by omega)) (nu (nu f2))
      · refine ⟨_, rfl, _, _, rfl, rfl, .inr (by decide), _, rfl, _, _, _, _, rfl, rfl, SqL.of upd_same, rfl, _, _, rfl, rfl, .inr (by decide), _, _, rfl, rfl, _, _, rfl, rfl, .inl ⟨_, rfl, _, _, rfl, rfl, (by show (0 : Int) < 2147483647; decide), _, _, rfl, rfl, .inr (by decide), _, rfl, _, _, _, _, rfl, rfl, SqL.of upd_same, rfl, _, _, rfl, rfl, .inl ⟨_, rfl, _, _, rfl, rfl, (by show (0 : Int) < 2147483629; decide), ?_⟩⟩⟩
        refine ⟨_, rfl, _, _, rfl, rfl, hdv7 _, .inl ⟨_, rfl, _, rfl, _, _, rfl, rfl, hm, ?_⟩⟩
        exact q _ _ (Int.emod_nonneg _ (by omega)) (Int.emod_lt_of_pos _ hm) S3 (nu f2)
end

/-! ### tags: who owns an address (owner, sort, number) -/
abbrev Tg : Type := Addr → Nat × Nat × Nat
def tgN (τ : Tg) (p : Addr) (x : Nat × Nat × Nat) : Tg := fun b => if b = p then x else τ b
theorem tg_same {τ : Tg} {p : Addr} {x : Nat × Nat × Nat} : tgN τ p x p = x := if_pos rfl
theorem tg_ne {τ : Tg} {p b : Addr} {x : Nat × Nat × Nat} (h : b ≠ p) : tgN τ p x b = τ b := if_neg h
theorem ne_tag {τ : Tg} {p q : Addr} {x y : Nat × Nat × Nat} (h1 : τ p = x) (h2 : τ q = y) (h : x ≠ y) : p ≠ q := fun e => h (by rw [← h1, ← h2, e])
/-- a step that writes at the owners S alone -/
structure Stp (τ τ' : Tg) (S : List Nat) (H H' : Hp) : Prop where
  fr : ∀ b o, H b = some o → (τ b).1 ∉ S → H' b = some o
  ag : ∀ b, H b ≠ none → τ' b = τ b
  al : ∀ b, H b ≠ none → H' b ≠ none
theorem some_ne {H : Hp} {b : Addr} {o : HO} (h : H b = some o) : H b ≠ none := by rw [h]; exact fun z => nomatch z
namespace Stp
variable {τ τ' τ2 : Tg} {S S' : List Nat} {H H' H2 : Hp}
theorem refl : Stp τ τ S H H := ⟨fun _ _ h _ => h, fun _ _ => rfl, fun _ h => h⟩
theorem mono (h : Stp τ τ' S H H') (i : ∀ x ∈ S, x ∈ S') : Stp τ τ' S' H H' := ⟨fun b o e n => h.fr b o e fun m => n (i _ m), h.ag, h.al⟩
theorem tr (x : Stp τ τ' S H H') (y : Stp τ' τ2 S H' H2) : Stp τ τ2 S H H2 :=
  ⟨fun b o e n => y.fr b o (x.fr b o e n) (by rw [x.ag b (some_ne e)]; exact n), fun b e => (y.ag b (x.al b e)).trans (x.ag b e), fun b e => y.al b (x.al b e)⟩
theorem same (h : Same H H') : Stp τ τ S H H' := ⟨fun b o e _ => h b o e, fun _ _ => rfl, fun b e => by
  cases z : H b with
  | none => exact absurd z e
  | some o => exact some_ne (h b o z)⟩
theorem new {p : Addr} {o : HO} {x : Nat × Nat × Nat} (h : Stp τ τ' S H H') (n : H' p = none) : Stp τ (tgN τ' p x) S H (upd H' p o) :=
  h.tr ⟨fun b u e _ => by rw [upd_ne (ne_of_none e n)]; exact e, fun b e => tg_ne fun z => e (by rw [z]; exact n), fun b e => by
    rw [upd_ne fun z => e (by rw [z]; exact n)]; exact e⟩
theorem put {p : Addr} {o : HO} (h : Stp τ τ' S H H') (m : (τ' p).1 ∈ S) : Stp τ τ' S H (upd H' p o) :=
  h.tr ⟨fun b u e n => by rw [upd_ne fun z => n (by rw [z]; exact m)]; exact e, fun _ _ => rfl, fun b e => by
    by_cases z : b = p
    · rw [z, upd_same]; exact fun z => nomatch z
    · rw [upd_ne z]; exact e⟩
theorem at_ {b : Addr} {o : HO} {x : Nat × Nat × Nat} (h : Stp τ τ' S H H') (e : H b = some o) (t : τ b = x) (n : x.1 ∉ S) : H' b = some o ∧ τ' b = x :=
  ⟨h.fr b o e (by rw [t]; exact n), (h.ag b (some_ne e)).trans t⟩
end Stp
/-- H p = o, with its tag -/
def At (τ : Tg) (H : Hp) (p : Addr) (o : HO) (x : Nat × Nat × Nat) : Prop := H p = some o ∧ τ p = x
namespace At
variable {τ τ' : Tg} {S : List Nat} {H H' : Hp} {p q : Addr} {o u : HO} {x y : Nat × Nat × Nat}
theorem st (h : At τ H p o x) (s : Stp τ τ' S H H') (n : x.1 ∉ S) : At τ' H' p o x := s.at_ h.1 h.2 n
theorem put (h : At τ H p o x) (t : τ q = y) (n : x ≠ y) : At τ (upd H q u) p o x := ⟨by rw [upd_ne (ne_tag h.2 t n)]; exact h.1, h.2⟩
theorem set (t : τ p = x) : At τ (upd H p o) p o x := ⟨upd_same, t⟩
theorem new (h : At τ H p o x) (n : H q = none) : At (tgN τ q y) (upd H q u) p o x := ⟨by rw [upd_ne (ne_of_none h.1 n)]; exact h.1, (tg_ne (ne_of_none h.1 n)).trans h.2⟩
theorem mk : At (tgN τ p x) (upd H p o) p o x := ⟨upd_same, tg_same⟩
theorem same (h : At τ H p o x) (s : Same H H') : At τ H' p o x := ⟨s _ _ h.1, h.2⟩
end At
/-! ### the draws' state under tags -/
structure StG (K : PySem.W.Frag) (τ : Tg) (H : Hp) (st sa : Addr) (ns : List Int) : Prop where
  p : StP K H st sa ns
  ts : τ st = (4, 0, 0)
  sg : (∀ H', SqL K H' sa (ns.map V.int)) ∨ (H sa ≠ none ∧ (τ sa).1 = 6)
namespace StG
variable {K : PySem.W.Frag} {τ τ' : Tg} {S : List Nat} {H H' : Hp} {st sa : Addr} {ns : List Int}
theorem step (h : StG K τ H st sa ns) (s : Stp τ τ' S H H') (n4 : 4 ∉ S) (n6 : 6 ∉ S) : StG K τ' H' st sa ns := by
  obtain ⟨i, d, k, z, e⟩ := h.p.at'
  obtain ⟨e', t'⟩ := s.at_ e h.ts n4
  refine ⟨⟨⟨i, d, k, z, e'⟩, ?_, h.p.ap⟩, t', ?_⟩
  · rcases h.sg with g | ⟨g1, g2⟩
    · exact g H'
    · rcases h.p.sq with (q | ⟨o, q⟩) | q
      · exact .inl (.inl (s.fr _ _ q (by rw [g2]; exact n6)))
      · exact .inl (.inr ⟨o, s.fr _ _ q (by rw [g2]; exact n6)⟩)
      · exact .inr q
  · rcases h.sg with g | ⟨g1, g2⟩
    · exact .inl g
    · exact .inr ⟨s.al _ g1, by rw [s.ag _ g1]; exact g2⟩
theorem pick (h : StG K τ H st sa ns) (S' : StP K H' st sa ns) (f : Frm [st] H H') : StG K τ H' st sa ns ∧ Stp τ τ [4] H H' := by
  have al : ∀ b, H b ≠ none → H' b ≠ none := fun b e => by
    by_cases z : b = st
    · obtain ⟨_, _, _, _, e'⟩ := S'.at'
      rw [z]; exact some_ne e'
    · cases q : H b with
      | none => exact absurd q e
      | some o => exact some_ne (f b o q (by simpa using z))
  refine ⟨⟨S', h.ts, ?_⟩, ⟨fun b o e n => f b o e (by
    intro m
    rw [List.mem_singleton.mp m, h.ts] at n
    exact n (List.mem_singleton.mpr rfl)), fun _ _ => rfl, al⟩⟩
  rcases h.sg with g | ⟨g1, g2⟩
  · exact .inl g
  · exact .inr ⟨al _ g1, g2⟩
theorem first {p : Addr} (h : SqL K H sa (ns.map V.int)) (n : H p = none) : StG K (tgN (fun _ => (6, 0, 0)) p (4, 0, 0)) (upd H p (.lst [.ref sa, .int 0, .int 0, .int 0])) p sa ns := by
  have s0 := sN (Same.refl H) n (o := .lst [V.ref sa, V.int 0, V.int 0, V.int 0])
  refine ⟨⟨⟨0, 0, 0, by decide, upd_same⟩, s0.seq h, apt_new h n⟩, tg_same, ?_⟩
  rcases h with (q | ⟨o, q⟩) | q
  · exact .inr ⟨some_ne (s0 _ _ q), by rw [tg_ne (ne_of_none q n)]⟩
  · exact .inr ⟨some_ne (s0 _ _ q), by rw [tg_ne (ne_of_none q n)]⟩
  · exact .inl fun _ => .inr q
end StG
def spPickG (K : PySem.W.Frag) : Sp := fun vs H Q _ => ∃ (τ : Tg) (st sa : Addr) (ns : List Int) (m : Int), vs = [.ref st, .int m] ∧ StG K τ H st sa ns ∧ 0 < m ∧ m < 2 ^ 62 ∧ ∀ (v : Int) (H' : Hp), 0 ≤ v → v < m → StG K τ H' st sa ns → Stp τ τ [4] H H' → Q (.int v) H'
theorem ok_pickG {P : Program} {w : World} {K : PySem.W.Frag} {mg : Str → Option Value} {base : Heap} {a : Ad} (T : Txt w K mg a) : FnOk P w K mg base CX0 1 a.f_law_pick a.d_law_pick ["state", "limit"] (spPickG K) :=
  FnOk.imp (ok_law_pick T) fun vs H Q E ⟨τ, st, sa, ns, m, e, S, h1, h2, q⟩ => ⟨st, sa, ns, m, e, S.p, h1, h2, fun v H' v0 v1 S' f => q v H' v0 v1 (S.pick S' f).1 (S.pick S' f).2⟩
theorem Stp.sameN {τ τ' : Tg} {S : List Nat} {H H1 H2 : Hp} {p : Addr} {x : Nat × Nat × Nat} (h : Stp τ τ' S H H1) (s : Same H1 H2) (n : H1 p = none) : Stp τ (tgN τ' p x) S H H2 :=
  h.tr ⟨fun b o e _ => s b o e, fun b e => tg_ne fun z => e (by rw [z]; exact n), (Stp.same (τ := τ) (S := S) s).al⟩
theorem At.sameN {τ : Tg} {H H' : Hp} {p q : Addr} {o : HO} {x y : Nat × Nat × Nat} (h : At τ H p o x) (s : Same H H') (n : H q = none) : At (tgN τ q y) H' p o x := ⟨s _ _ h.1, (tg_ne (ne_of_none h.1 n)).trans h.2⟩
theorem At.in {τ : Tg} {H : Hp} {p : Addr} {o : HO} {x : Nat × Nat × Nat} (e : H p = some o) : At (tgN τ p x) H p o x := ⟨e, tg_same⟩
/-! ### slices -/
theorem cut_lo (xs : List V) (a : Nat) : cutV xs (some (a : Int)) none = xs.drop a := by
  unfold cutV
  rw [HT.sIx_nat, HT.sIx_none]
  by_cases h : a ≤ xs.length
  · rw [Nat.min_eq_left h, List.take_of_length_le (by rw [List.length_drop]; omega)]
  · rw [Nat.min_eq_right (by omega), List.drop_eq_nil_of_le (Nat.le_refl _), List.drop_eq_nil_of_le (show xs.length ≤ a by omega), List.take_nil]
theorem cut_hi (xs : List V) (b : Nat) : cutV xs none (some (b : Int)) = xs.take b := by
  unfold cutV
  rw [HT.sIx_nat, HT.sIx_none, List.drop_zero, Nat.sub_zero]
  by_cases h : b ≤ xs.length
  · rw [Nat.min_eq_left h]
  · rw [Nat.min_eq_right (by omega), List.take_of_length_le (Nat.le_refl _), List.take_of_length_le (show xs.length ≤ b by omega)]
theorem cut_mid (xs : List V) (a b : Nat) (h : a ≤ b) (h2 : b ≤ xs.length) : cutV xs (some (a : Int)) (some (b : Int)) = (xs.drop a).take (b - a) := by
  unfold cutV
  rw [HT.sIx_nat, HT.sIx_nat, Nat.min_eq_left (show a ≤ xs.length by omega), Nat.min_eq_left h2]
theorem rep_int (n : Nat) : (List.replicate n [V.int 0]).flatten = (List.replicate n (0 : Int)).map V.int := by
  induction n with
  | zero => rfl
  | succ n ih => rw [List.replicate_succ, List.flatten_cons, ih, List.replicate_succ]; rfl

/-! ### lists read and written -/
theorem at_map {ys : List Int} {j : Nat} (h : j < ys.length) : (ys.map V.int)[j]? = some (V.int (ys.getD j 0)) := by
  rw [List.getElem?_map, List.getD_eq_getElem?_getD, List.getElem?_eq_getElem h] <;> rfl
theorem ixN_nat {n j : Nat} (h : j < n) : ixN n (j : Int) = some j := by
  unfold ixN
  rw [if_pos (by omega), if_pos (by omega), Int.toNat_natCast]
theorem set_int {ys : List Int} {j : Nat} {w : Int} : (ys.map V.int).set j (V.int w) = (ys.set j w).map V.int := by rw [List.map_set]
theorem rng_at {f : Nat → V} {n k : Nat} (h : k < n) : ((List.range n).map f)[k]? = some (f k) := by simp [h]
theorem rng_len {f : Nat → V} {n : Nat} : ((List.range n).map f).length = n := by simp
theorem rng_drop {f : Nat → V} {n : Nat} : ((List.range (n + 1)).map f).dropLast = (List.range n).map f := by
  rw [List.range_succ, List.map_append]
  exact List.dropLast_concat
theorem rng_up {f g : Nat → V} {n : Nat} (h : ∀ k, k < n → f k = g k) : (List.range n).map f = (List.range n).map g := List.map_congr_left fun k hk => h k (List.mem_range.mp hk)
def upA (f : Nat → Addr) (k : Nat) (y : Addr) : Nat → Addr := fun j => if j = k then y else f j
theorem upA_same {f : Nat → Addr} {k : Nat} {y : Addr} : upA f k y k = y := if_pos rfl
theorem upA_ne {f : Nat → Addr} {k j : Nat} {y : Addr} (h : j ≠ k) : upA f k y j = f j := if_neg h
theorem rng_app {f : Nat → Addr} {n : Nat} {p : Addr} : ((List.range n).map fun k => V.ref (f k)) ++ [V.ref p] = (List.range (n + 1)).map fun k => V.ref (upA f n p k) := by
  rw [List.range_succ, List.map_append]
  congr 1
  · exact rng_up fun k hk => by rw [upA_ne (by omega)]
  · show _ = [V.ref (upA f n p n)]
    rw [upA_same]
theorem sz {n : Nat} (h : n ≤ 900) : n < sizeLine := small1000 (by omega)
theorem mem1 {i : Nat} {x : Nat × Nat × Nat} {τ : Tg} {p : Addr} (h : τ p = x) (e : x.1 = i) : (τ p).1 ∈ [i] := by rw [h, e]; exact List.mem_singleton.mpr rfl

/-! ### xs[lo:hi] = ys -/
section
variable {prog : Program} {w : World} {A : Around} {E : Value → Shared → Prop} {s : Shared}
theorem put_slice {l b z : Addr} {xs ys : Array Value} {n n2 : Nat} {v1 v2 : Value} {lo hi : Option Int} {a c : Nat} {Q : Unit → Shared → Prop} (el : s.heap.get? l = some { cls := .type "list", data := .seq xs n })
    (eb : s.heap.get? b = some { cls := .type "list", data := .seq ys n2 }) (nlb : l ≠ b) (iz : s.heap.IsSliceOf z v1 v2 .none) (p1 : IsPart v1 lo) (p2 : IsPart v2 hi) (ac : a ≤ c) (cn : c ≤ xs.size)
    (bd : sliceBounds lo hi none xs.size = ((a : Int), (c : Int), 1)) (sz1 : xs.size + ys.size ≤ sizeLine) (go : Q () { s with heap := s.heap.update l (Obj.mapSeq fun u => u.extract 0 a ++ ys ++ u.extract c u.size) }) :
    wpAny (model prog w) A (setItem (.ref l) (.ref z) (.ref b)) Q E s := by
  have il : s.heap.IsList l xs := PySem.IsL.isList el
  have ib : s.heap.IsList b ys := PySem.IsL.isList eb
  obtain ⟨oz, ez, cz, dz⟩ := id iz
  have tz : s.TypeIs (.ref z) "slice" := ⟨oz, ez, cz⟩
  have two : Builtin.List.listSameRef (.ref l) (.ref b) = false := by unfold Builtin.List.listSameRef; exact beq_eq_false_iff_ne.mpr nlb
  have mx : (max (a : Int) (c : Int)).toNat = c := by omega
  have fit : ((fun u : Array Value => u.extract 0 a ++ ys ++ u.extract c u.size) xs).size ≤ sizeLine + 1 := by simp only [Array.size_append, Array.size_extract]; omega
  unfold setItem
  try with_reducible refine wpAny_holding ?_
  first | refine wpAny_bind (wpAny_pure ?_) | skip
  refine wpAny_bind (wpAny_sequenceKey il.typeIs (by decide) (wpAny_bind (wpAny_callSpecial?_slot (name := Str.ofString "__setitem__") il.typeIs slot_list_setitem (wpAny_call_entry slot_list_setitem il.typeIs entry_list_setitem ?_ (args_list_setitem _ _ _)))))
  show wpAny _ _ (Builtin.List.listSubscript? (.ref z) >>= _) _ _ s
  refine wpAny_bind ?_; unfold Builtin.List.listSubscript?; refine wpAny_bind (wpAny_specialOf tz slice_no_index ?_)
  simp only [Option.isNone_none, if_true]; refine wpAny_pure ?_
  show wpAny _ _ (typeOf (.ref z) >>= _) _ _ s
  refine wpAny_bind (wpAny_typeOf tz ?_); first | rw [if_neg (by decide)] | refine PySem.W.KFB.if_not (by decide) ?_
  rw [listSliceParts_eq]; refine wpAny_bind (wpAny_bind (wpAny_field ez dz (x := .none) rfl (wpAny_bind (wpAny_listPart .none ?_))))
  rw [if_neg (show ¬ ((rawPart none == rawInt 0) = true) from Bool.false_ne_true)]
  refine wpAny_bind (wpAny_field ez dz (x := v1) rfl (wpAny_bind (wpAny_listPart p1 (wpAny_bind (wpAny_field ez dz (x := v2) rfl (wpAny_bind (wpAny_listPart p2 (wpAny_pure ?_))))))))
  first | simp only [two, Bool.false_eq_true, if_false] | refine PySem.W.KFB.if_not two ?_ | (dsimp only; rw [if_neg (by rw [two]; exact Bool.false_ne_true)])
  refine wpAny_bind (m := Builtin.List.listAllItems (.ref b) "must assign iterable to extended slice") ?_; unfold Builtin.List.listAllItems; refine wpAny_bind (wpAny_typeOf ib.typeIs ?_)
  first | refine PySem.W.KFB.if_so (by decide) ?_ | rw [if_pos (by decide)] | simp only [beq_self_eq_true, Bool.true_or, if_true]
  unfold Builtin.List.listItems; refine wpAny_bind (wpAny_seqItems eb rfl (wpAny_pure (wpAny_bind (wpAny_bind (wpAny_seqItems el rfl (wpAny_pure ?_))))))
  refine wpAny_bind (wpAny_of_eq ((sliceIndices_raw lo hi none xs.size (by simp)).trans (congrArg (pure : Int × Int × Int → Sem (Int × Int × Int)) bd)) ?_)
  show wpAny _ _ (if ((1 : Int) == 1) = true then _ else _) _ _ s; rw [if_pos (by decide)]; refine wpAny_bind (wpAny_rule ?_)
  first | simp only [notLongL sz1, Bool.false_eq_true, if_false] | refine PySem.W.KFB.if_not (notLongL sz1) ?_
  first | refine wpAny_bind (wpAny_pure ?_) | skip
  show wpAny _ _ (updateSeq l (fun u => u.extract 0 ((a : Int)).toNat ++ ys ++ u.extract (max (a : Int) (c : Int)).toNat u.size) >>= _) _ _ s
  rw [mx, Int.toNat_natCast]; refine wpAny_bind (wpAny_updateSeq (hz := Nat.le_trans (Nat.le_add_right _ _) sz1) (_hz' := fit) el rfl (wpAny_bind (wpAny_letGo ?_)))
  first | exact wpAny_bind (wpAny_pure (wpAny_pure ⟨.none, rfl, wpAny_pure go⟩)) | exact wpAny_pure ⟨.none, rfl, wpAny_pure go⟩
end
section
variable {X : Cx}
def gSlc (to : TE) (tl th : TO) : TG := fun v σ H Q => to σ H fun o H1 => tl σ H1 fun lo H2 => th σ H2 fun hi H3 => ∃ (l b : Addr) (xs ys : List V) (i c : Nat), o = .ref l ∧ v = .ref b ∧ H3 l = some (.lst xs) ∧ H3 b = some (.lst ys) ∧ l ≠ b ∧ i ≤ c ∧ c ≤ xs.length ∧
  sliceBounds lo hi none xs.length = ((i : Int), (c : Int), 1) ∧ xs.length + ys.length ≤ sizeLine ∧ Q σ (upd H3 l (.lst (xs.take i ++ ys ++ xs.drop c)))
theorem pg_slc {o : Expr} {lo hi : Option Expr} {p2 pos : Pos} {to : TE} {tl th : TO} (ho : PE X o to) (hl : PO X lo tl) (hh : PO X hi th)
    (ha : ∀ v, assign (.Subscript o (.Slice lo hi none p2) pos) X.env v = (do
      let u ← holding [v] (eval o X.env)
      let y ← holding [v, u] (eval (.Slice lo hi none p2) X.env)
      standAt pos
      holding [v, u, y] (setItem u y v)
      release [y, v, u] []) := by intro _; rfl) : PG X (.Subscript o (.Slice lo hi none p2) pos) (gSlc to tl th) := by
  refine ⟨fun pins s σ H v u Q I r h => ?_⟩
  rw [ha]
  refine wpAny_bind (wpAny_holding (thn (ho.run pins s σ H _ I h) fun ov s1 ⟨x, H1, I1, r1, q1⟩ => ?_))
  refine wpAny_bind (wpAny_holding (wpAny_Slice (thn (hl.run pins s1 σ H1 _ I1 q1) fun vl s2 ⟨k1, H2, I2, pl, q2⟩ => thn (hh.run pins s2 σ H2 _ I2 q2) fun vu s3 ⟨k2, H3, I3, pu, q3⟩ => ?_)))
  rw [evalPart_none]
  refine wpAny_pure ?_
  have I4 : Inv X pins σ H3 { s3 with heap := s3.heap.push { cls := .type "slice", data := .fields #[vl, vu, .none] } } := I3.kept (t' := s3.toks) fun b ob q => Heap.get?_push_of_some _ q
  obtain ⟨l, b, xs, ys, i, c, rfl, rfl, hx, hy, ne, ic, cx, bd, sz1, q⟩ := q3
  obtain rfl : ov = Value.ref l := r1
  obtain rfl : u = Value.ref b := r
  refine wpAny_bind (wpAny_standAt (wpAny_bind (wpAny_holding ?_)))
  obtain ⟨z, its, n, r, el, e⟩ := I4.lstM hx
  obtain ⟨z2, its2, n2, r2, el2, e2⟩ := I4.lstM hy
  refine put_slice (a := i) (c := c) e e2 ne (Heap.IsSliceOf.new ..) pl pu ic (by rw [List.size_toArray]; omega) (by rw [List.size_toArray, ← el]; exact bd) (by rw [List.size_toArray, List.size_toArray]; omega) (wpAny_release ⟨σ, _, ?_, q⟩)
  refine I4.lset (its' := its.take i ++ its2 ++ its.drop c) (t' := s3.toks) hx e (splice_eq its its2 i c) (Vals.append (Vals.append (r.take _) r2) (r.drop _)) (by rw [List.length_append, List.length_append, List.length_take, List.length_drop]; omega)
end

theorem rgf_e0_1 : (("depth" : Str) == "spills") = false := by decide +kernel
theorem rgf_q0_1 : (("depth" : Str) = "spills") = False := by simp only [eq_iff_iff, iff_false]; decide +kernel
theorem rgf_e0_2 : (("depth" : Str) == "fills") = false := by decide +kernel
theorem rgf_q0_2 : (("depth" : Str) = "fills") = False := by simp only [eq_iff_iff, iff_false]; decide +kernel
theorem rgf_e0_3 : (("depth" : Str) == "resident") = false := by decide +kernel
theorem rgf_q0_3 : (("depth" : Str) = "resident") = False := by simp only [eq_iff_iff, iff_false]; decide +kernel
theorem rgf_e0_4 : (("depth" : Str) == "_memory") = false := by decide +kernel
theorem rgf_q0_4 : (("depth" : Str) = "_memory") = False := by simp only [eq_iff_iff, iff_false]; decide +kernel
theorem rgf_e0_5 : (("depth" : Str) == "_most") = false := by decide +kernel
theorem rgf_q0_5 : (("depth" : Str) = "_most") = False := by simp only [eq_iff_iff, iff_false]; decide +kernel
theorem rgf_e0_6 : (("depth" : Str) == "_view") = false := by decide +kernel
theorem rgf_q0_6 : (("depth" : Str) = "_view") = False := by simp only [eq_iff_iff, iff_false]; decide +kernel
theorem rgf_e0_7 : (("depth" : Str) == "_above") = false := by decide +kernel
theorem rgf_q0_7 : (("depth" : Str) = "_above") = False := by simp only [eq_iff_iff, iff_false]; decide +kernel
theorem rgf_e1_0 : (("spills" : Str) == "depth") = false := by decide +kernel
theorem rgf_q1_0 : (("spills" : Str) = "depth") = False := by simp only [eq_iff_iff, iff_false]; decide +kernel
theorem rgf_e1_2 : (("spills" : Str) == "fills") = false := by decide +kernel
theorem rgf_q1_2 : (("spills" : Str) = "fills") = False := by simp only [eq_iff_iff, iff_false]; decide +kernel
theorem rgf_e1_3 : (("spills" : Str) == "resident") = false := by decide +kernel
theorem rgf_q1_3 : (("spills" : Str) = "resident") = False := by simp only [eq_iff_iff, iff_false]; decide +kernel
theorem rgf_e1_4 : (("spills" : Str) == "_memory") = false := by decide +kernel
theorem rgf_q1_4 : (("spills" : Str) = "_memory") = False := by simp only [eq_iff_iff, iff_false]; decide +kernel
theorem rgf_e1_5 : (("spills" : Str) == "_most") = false := by decide +kernel
theorem rgf_q1_5 : (("spills" : Str) = "_most") = False := by simp only [eq_iff_iff, iff_false]; decide +kernel
theorem rgf_e1_6 : (("spills" : Str) == "_view") = false := by decide +kernel
theorem rgf_q1_6 : (("spills" : Str) = "_view") = False := by simp only [eq_iff_iff, iff_false]; decide +kernel
theorem rgf_e1_7 : (("spills" : Str) == "_above") = false := by decide +kernel
theorem rgf_q1_7 : (("spills" : Str) = "_above") = False := by simp only [eq_iff_iff, iff_false]; decide +kernel
theorem rgf_e2_0 : (("fills" : Str) == "depth") = false := by decide +kernel
theorem rgf_q2_0 : (("fills" : Str) = "depth") = False := by simp only [eq_iff_iff, iff_false]; decide +kernel
theorem rgf_e2_1 : (("fills" : Str) == "spills") = false := by decide +kernel
theorem rgf_q2_1 : (("fills" : Str) = "spills") = False := by simp only [eq_iff_iff, iff_false]; decide +kernel
theorem rgf_e2_3 : (("fills" : Str) == "resident") = false := by decide +kernel
theorem rgf_q2_3 : (("fills" : Str) = "resident") = False := by simp only [eq_iff_iff, iff_false]; decide +kernel
theorem rgf_e2_4 : (("fills" : Str) == "_memory") = false := by decide +kernel
theorem rgf_q2_4 : (("fills" : Str) = "_memory") = False := by simp only [eq_iff_iff, iff_false]; decide +kernel
theorem rgf_e2_5 : (("fills" : Str) == "_most") = false := by decide +kernel
theorem rgf_q2_5 : (("fills" : Str) = "_most") = False := by simp only [eq_iff_iff, iff_false]; decide +kernel
theorem rgf_e2_6 : (("fills" : Str) == "_view") = false := by decide +kernel
theorem rgf_q2_6 : (("fills" : Str) = "_view") = False := by simp only [eq_iff_iff, iff_false]; decide +kernel
theorem rgf_e2_7 : (("fills" : Str) == "_above") = false := by decide +kernel
theorem rgf_q2_7 : (("fills" : Str) = "_above") = False := by simp only [eq_iff_iff, iff_false]; decide +kernel
theorem rgf_e3_0 : (("resident" : Str) == "depth") = false := by decide +kernel
theorem rgf_q3_0 : (("resident" : Str) = "depth") = False := by simp only [eq_iff_iff, iff_false]; decide +kernel
theorem rgf_e3_1 : (("resident" : Str) == "spills") = false := by decide +kernel
theorem rgf_q3_1 : (("resident" : Str) = "spills") = False := by simp only [eq_iff_iff, iff_false]; decide +kernel
theorem rgf_e3_2 : (("resident" : Str) == "fills") = false := by decide +kernel
theorem rgf_q3_2 : (("resident" : Str) = "fills") = False := by simp only [eq_iff_iff, iff_false]; decide +kernel
theorem rgf_e3_4 : (("resident" : Str) == "_memory") = false := by decide +kernel
theorem rgf_q3_4 : (("resident" : Str) = "_memory") = False := by simp only [eq_iff_iff, iff_false]; decide +kernel
theorem rgf_e3_5 : (("resident" : Str) == "_most") = false := by decide +kernel
theorem rgf_q3_5 : (("resident" : Str) = "_most") = False := by simp only [eq_iff_iff, iff_false]; decide +kernel
theorem rgf_e3_6 : (("resident" : Str) == "_view") = false := by decide +kernel
theorem rgf_q3_6 : (("resident" : Str) = "_view") = False := by simp only [eq_iff_iff, iff_false]; decide +kernel
theorem rgf_e3_7 : (("resident" : Str) == "_above") = false := by decide +kernel
theorem rgf_q3_7 : (("resident" : Str) = "_above") = False := by simp only [eq_iff_iff, iff_false]; decide +kernel
theorem rgf_e4_0 : (("_memory" : Str) == "depth") = false := by decide +kernel
theorem rgf_q4_0 : (("_memory" : Str) = "depth") = False := by simp only [eq_iff_iff, iff_false]; decide +kernel
theorem rgf_e4_1 : (("_memory" : Str) == "spills") = false := by decide +kernel
theorem rgf_q4_1 : (("_memory" : Str) = "spills") = False := by simp only [eq_iff_iff, iff_false]; decide +kernel
theorem rgf_e4_2 : (("_memory" : Str) == "fills") = false := by decide +kernel
theorem rgf_q4_2 : (("_memory" : Str) = "fills") = False := by simp only [eq_iff_iff, iff_false]; decide +kernel
theorem rgf_e4_3 : (("_memory" : Str) == "resident") = false := by decide +kernel
theorem rgf_q4_3 : (("_memory" : Str) = "resident") = False := by simp only [eq_iff_iff, iff_false]; decide +kernel
theorem rgf_e4_5 : (("_memory" : Str) == "_most") = false := by decide +kernel
theorem rgf_q4_5 : (("_memory" : Str) = "_most") = False := by simp only [eq_iff_iff, iff_false]; decide +kernel
theorem rgf_e4_6 : (("_memory" : Str) == "_view") = false := by decide +kernel
theorem rgf_q4_6 : (("_memory" : Str) = "_view") = False := by simp only [eq_iff_iff, iff_false]; decide +kernel
theorem rgf_e4_7 : (("_memory" : Str) == "_above") = false := by decide +kernel
theorem rgf_q4_7 : (("_memory" : Str) = "_above") = False := by simp only [eq_iff_iff, iff_false]; decide +kernel
theorem rgf_e5_0 : (("_most" : Str) == "depth") = false := by decide +kernel
theorem rgf_q5_0 : (("_most" : Str) = "depth") = False := by simp only [eq_iff_iff, iff_false]; decide +kernel
theorem rgf_e5_1 : (("_most" : Str) == "spills") = false := by decide +kernel
theorem rgf_q5_1 : (("_most" : Str) = "spills") = False := by simp only [eq_iff_iff, iff_false]; decide +kernel
theorem rgf_e5_2 : (("_most" : Str) == "fills") = false := by decide +kernel
theorem rgf_q5_2 : (("_most" : Str) = "fills") = False := by simp only [eq_iff_iff, iff_false]; decide +kernel
theorem rgf_e5_3 : (("_most" : Str) == "resident") = false := by decide +kernel
theorem rgf_q5_3 : (("_most" : Str) = "resident") = False := by simp only [eq_iff_iff, iff_false]; decide +kernel
theorem rgf_e5_4 : (("_most" : Str) == "_memory") = false := by decide +kernel
theorem rgf_q5_4 : (("_most" : Str) = "_memory") = False := by simp only [eq_iff_iff, iff_false]; decide +kernel
theorem rgf_e5_6 : (("_most" : Str) == "_view") = false := by decide +kernel
theorem rgf_q5_6 : (("_most" : Str) = "_view") = False := by simp only [eq_iff_iff, iff_false]; decide +kernel
theorem rgf_e5_7 : (("_most" : Str) == "_above") = false := by decide +kernel
theorem rgf_q5_7 : (("_most" : Str) = "_above") = False := by simp only [eq_iff_iff, iff_false]; decide +kernel
theorem rgf_e6_0 : (("_view" : Str) == "depth") = false := by decide +kernel
theorem rgf_q6_0 : (("_view" : Str) = "depth") = False := by simp only [eq_iff_iff, iff_false]; decide +kernel
theorem rgf_e6_1 : (("_view" : Str) == "spills") = false := by decide +kernel
theorem rgf_q6_1 : (("_view" : Str) = "spills") = False := by simp only [eq_iff_iff, iff_false]; decide +kernel
theorem rgf_e6_2 : (("_view" : Str) == "fills") = false := by decide +kernel
theorem rgf_q6_2 : (("_view" : Str) = "fills") = False := by simp only [eq_iff_iff, iff_false]; decide +kernel
theorem rgf_e6_3 : (("_view" : Str) == "resident") = false := by decide +kernel
theorem rgf_q6_3 : (("_view" : Str) = "resident") = False := by simp only [eq_iff_iff, iff_false]; decide +kernel
theorem rgf_e6_4 : (("_view" : Str) == "_memory") = false := by decide +kernel
theorem rgf_q6_4 : (("_view" : Str) = "_memory") = False := by simp only [eq_iff_iff, iff_false]; decide +kernel
theorem rgf_e6_5 : (("_view" : Str) == "_most") = false := by decide +kernel
theorem rgf_q6_5 : (("_view" : Str) = "_most") = False := by simp only [eq_iff_iff, iff_false]; decide +kernel
theorem rgf_e6_7 : (("_view" : Str) == "_above") = false := by decide +kernel
theorem rgf_q6_7 : (("_view" : Str) = "_above") = False := by simp only [eq_iff_iff, iff_false]; decide +kernel
theorem rgf_e7_0 : (("_above" : Str) == "depth") = false := by decide +kernel
theorem rgf_q7_0 : (("_above" : Str) = "depth") = False := by simp only [eq_iff_iff, iff_false]; decide +kernel
theorem rgf_e7_1 : (("_above" : Str) == "spills") = false := by decide +kernel
theorem rgf_q7_1 : (("_above" : Str) = "spills") = False := by simp only [eq_iff_iff, iff_false]; decide +kernel
theorem rgf_e7_2 : (("_above" : Str) == "fills") = false := by decide +kernel
theorem rgf_q7_2 : (("_above" : Str) = "fills") = False := by simp only [eq_iff_iff, iff_false]; decide +kernel
theorem rgf_e7_3 : (("_above" : Str) == "resident") = false := by decide +kernel
theorem rgf_q7_3 : (("_above" : Str) = "resident") = False := by simp only [eq_iff_iff, iff_false]; decide +kernel
theorem rgf_e7_4 : (("_above" : Str) == "_memory") = false := by decide +kernel
theorem rgf_q7_4 : (("_above" : Str) = "_memory") = False := by simp only [eq_iff_iff, iff_false]; decide +kernel
theorem rgf_e7_5 : (("_above" : Str) == "_most") = false := by decide +kernel
theorem rgf_q7_5 : (("_above" : Str) = "_most") = False := by simp only [eq_iff_iff, iff_false]; decide +kernel
theorem rgf_e7_6 : (("_above" : Str) == "_view") = false := by decide +kernel
theorem rgf_q7_6 : (("_above" : Str) = "_view") = False := by simp only [eq_iff_iff, iff_false]; decide +kernel
def rgf (x0 : Int) (x1 : Int) (x2 : Int) (x3 : Int) (x4 : Addr) (x5 : Int) (x6 : Addr) (x7 : Addr) : List (Str × V) := [("depth", .int x0), ("spills", .int x1), ("fills", .int x2), ("resident", .int x3), ("_memory", .ref x4), ("_most", .int x5), ("_view", .ref x6), ("_above", .ref x7)]
theorem rgf_depth (x0 : Int) (x1 : Int) (x2 : Int) (x3 : Int) (x4 : Addr) (x5 : Int) (x6 : Addr) (x7 : Addr) : (rgf x0 x1 x2 x3 x4 x5 x6 x7).lookup ("depth" : Str) = some (V.int x0) := by simp [rgf, List.lookup, rgf]
theorem rgf_spills (x0 : Int) (x1 : Int) (x2 : Int) (x3 : Int) (x4 : Addr) (x5 : Int) (x6 : Addr) (x7 : Addr) : (rgf x0 x1 x2 x3 x4 x5 x6 x7).lookup ("spills" : Str) = some (V.int x1) := by simp [rgf, List.lookup, rgf_e1_0]
theorem rgf_fills (x0 : Int) (x1 : Int) (x2 : Int) (x3 : Int) (x4 : Addr) (x5 : Int) (x6 : Addr) (x7 : Addr) : (rgf x0 x1 x2 x3 x4 x5 x6 x7).lookup ("fills" : Str) = some (V.int x2) := by simp [rgf, List.lookup, rgf_e2_0, rgf_e2_1]
theorem rgf_resident (x0 : Int) (x1 : Int) (x2 : Int) (x3 : Int) (x4 : Addr) (x5 : Int) (x6 : Addr) (x7 : Addr) : (rgf x0 x1 x2 x3 x4 x5 x6 x7).lookup ("resident" : Str) = some (V.int x3) := by simp [rgf, List.lookup, rgf_e3_0, rgf_e3_1, rgf_e3_2]
theorem rgf__memory (x0 : Int) (x1 : Int) (x2 : Int) (x3 : Int) (x4 : Addr) (x5 : Int) (x6 : Addr) (x7 : Addr) : (rgf x0 x1 x2 x3 x4 x5 x6 x7).lookup ("_memory" : Str) = some (V.ref x4) := by simp [rgf, List.lookup, rgf_e4_0, rgf_e4_1, rgf_e4_2, rgf_e4_3]
theorem rgf__most (x0 : Int) (x1 : Int) (x2 : Int) (x3 : Int) (x4 : Addr) (x5 : Int) (x6 : Addr) (x7 : Addr) : (rgf x0 x1 x2 x3 x4 x5 x6 x7).lookup ("_most" : Str) = some (V.int x5) := by simp [rgf, List.lookup, rgf_e5_0, rgf_e5_1, rgf_e5_2, rgf_e5_3, rgf_e5_4]
theorem rgf__view (x0 : Int) (x1 : Int) (x2 : Int) (x3 : Int) (x4 : Addr) (x5 : Int) (x6 : Addr) (x7 : Addr) : (rgf x0 x1 x2 x3 x4 x5 x6 x7).lookup ("_view" : Str) = some (V.ref x6) := by simp [rgf, List.lookup, rgf_e6_0, rgf_e6_1, rgf_e6_2, rgf_e6_3, rgf_e6_4, rgf_e6_5]
theorem rgf__above (x0 : Int) (x1 : Int) (x2 : Int) (x3 : Int) (x4 : Addr) (x5 : Int) (x6 : Addr) (x7 : Addr) : (rgf x0 x1 x2 x3 x4 x5 x6 x7).lookup ("_above" : Str) = some (V.ref x7) := by simp [rgf, List.lookup, rgf_e7_0, rgf_e7_1, rgf_e7_2, rgf_e7_3, rgf_e7_4, rgf_e7_5, rgf_e7_6]
theorem rgf_mread_0 : (("read" : Str) == "depth") = false := by decide +kernel
theorem rgf_mread_1 : (("read" : Str) == "spills") = false := by decide +kernel
theorem rgf_mread_2 : (("read" : Str) == "fills") = false := by decide +kernel
theorem rgf_mread_3 : (("read" : Str) == "resident") = false := by decide +kernel
theorem rgf_mread_4 : (("read" : Str) == "_memory") = false := by decide +kernel
theorem rgf_mread_5 : (("read" : Str) == "_most") = false := by decide +kernel
theorem rgf_mread_6 : (("read" : Str) == "_view") = false := by decide +kernel
theorem rgf_mread_7 : (("read" : Str) == "_above") = false := by decide +kernel
theorem rgf_no_read (x0 : Int) (x1 : Int) (x2 : Int) (x3 : Int) (x4 : Addr) (x5 : Int) (x6 : Addr) (x7 : Addr) : (rgf x0 x1 x2 x3 x4 x5 x6 x7).lookup ("read" : Str) = none := by simp [rgf, List.lookup, rgf_mread_0, rgf_mread_1, rgf_mread_2, rgf_mread_3, rgf_mread_4, rgf_mread_5, rgf_mread_6, rgf_mread_7]
theorem rgf_mwrite_0 : (("write" : Str) == "depth") = false := by decide +kernel
theorem rgf_mwrite_1 : (("write" : Str) == "spills") = false := by decide +kernel
theorem rgf_mwrite_2 : (("write" : Str) == "fills") = false := by decide +kernel
theorem rgf_mwrite_3 : (("write" : Str) == "resident") = false := by decide +kernel
theorem rgf_mwrite_4 : (("write" : Str) == "_memory") = false := by decide +kernel
theorem rgf_mwrite_5 : (("write" : Str) == "_most") = false := by decide +kernel
theorem rgf_mwrite_6 : (("write" : Str) == "_view") = false := by decide +kernel
theorem rgf_mwrite_7 : (("write" : Str) == "_above") = false := by decide +kernel
theorem rgf_no_write (x0 : Int) (x1 : Int) (x2 : Int) (x3 : Int) (x4 : Addr) (x5 : Int) (x6 : Addr) (x7 : Addr) : (rgf x0 x1 x2 x3 x4 x5 x6 x7).lookup ("write" : Str) = none := by simp [rgf, List.lookup, rgf_mwrite_0, rgf_mwrite_1, rgf_mwrite_2, rgf_mwrite_3, rgf_mwrite_4, rgf_mwrite_5, rgf_mwrite_6, rgf_mwrite_7]
theorem rgf_mshift_down_0 : (("shift_down" : Str) == "depth") = false := by decide +kernel
theorem rgf_mshift_down_1 : (("shift_down" : Str) == "spills") = false := by decide +kernel
theorem rgf_mshift_down_2 : (("shift_down" : Str) == "fills") = false := by decide +kernel
theorem rgf_mshift_down_3 : (("shift_down" : Str) == "resident") = false := by decide +kernel
theorem rgf_mshift_down_4 : (("shift_down" : Str) == "_memory") = false := by decide +kernel
theorem rgf_mshift_down_5 : (("shift_down" : Str) == "_most") = false := by decide +kernel
theorem rgf_mshift_down_6 : (("shift_down" : Str) == "_view") = false := by decide +kernel
theorem rgf_mshift_down_7 : (("shift_down" : Str) == "_above") = false := by decide +kernel
theorem rgf_no_shift_down (x0 : Int) (x1 : Int) (x2 : Int) (x3 : Int) (x4 : Addr) (x5 : Int) (x6 : Addr) (x7 : Addr) : (rgf x0 x1 x2 x3 x4 x5 x6 x7).lookup ("shift_down" : Str) = none := by simp [rgf, List.lookup, rgf_mshift_down_0, rgf_mshift_down_1, rgf_mshift_down_2, rgf_mshift_down_3, rgf_mshift_down_4, rgf_mshift_down_5, rgf_mshift_down_6, rgf_mshift_down_7]
theorem rgf_mshift_up_0 : (("shift_up" : Str) == "depth") = false := by decide +kernel
theorem rgf_mshift_up_1 : (("shift_up" : Str) == "spills") = false := by decide +kernel
theorem rgf_mshift_up_2 : (("shift_up" : Str) == "fills") = false := by decide +kernel
theorem rgf_mshift_up_3 : (("shift_up" : Str) == "resident") = false := by decide +kernel
theorem rgf_mshift_up_4 : (("shift_up" : Str) == "_memory") = false := by decide +kernel
theorem rgf_mshift_up_5 : (("shift_up" : Str) == "_most") = false := by decide +kernel
theorem rgf_mshift_up_6 : (("shift_up" : Str) == "_view") = false := by decide +kernel
theorem rgf_mshift_up_7 : (("shift_up" : Str) == "_above") = false := by decide +kernel
theorem rgf_no_shift_up (x0 : Int) (x1 : Int) (x2 : Int) (x3 : Int) (x4 : Addr) (x5 : Int) (x6 : Addr) (x7 : Addr) : (rgf x0 x1 x2 x3 x4 x5 x6 x7).lookup ("shift_up" : Str) = none := by simp [rgf, List.lookup, rgf_mshift_up_0, rgf_mshift_up_1, rgf_mshift_up_2, rgf_mshift_up_3, rgf_mshift_up_4, rgf_mshift_up_5, rgf_mshift_up_6, rgf_mshift_up_7]
theorem rgf_mblocked_down_0 : (("blocked_down" : Str) == "depth") = false := by decide +kernel
theorem rgf_mblocked_down_1 : (("blocked_down" : Str) == "spills") = false := by decide +kernel
theorem rgf_mblocked_down_2 : (("blocked_down" : Str) == "fills") = false := by decide +kernel
theorem rgf_mblocked_down_3 : (("blocked_down" : Str) == "resident") = false := by decide +kernel
theorem rgf_mblocked_down_4 : (("blocked_down" : Str) == "_memory") = false := by decide +kernel
theorem rgf_mblocked_down_5 : (("blocked_down" : Str) == "_most") = false := by decide +kernel
theorem rgf_mblocked_down_6 : (("blocked_down" : Str) == "_view") = false := by decide +kernel
theorem rgf_mblocked_down_7 : (("blocked_down" : Str) == "_above") = false := by decide +kernel
theorem rgf_no_blocked_down (x0 : Int) (x1 : Int) (x2 : Int) (x3 : Int) (x4 : Addr) (x5 : Int) (x6 : Addr) (x7 : Addr) : (rgf x0 x1 x2 x3 x4 x5 x6 x7).lookup ("blocked_down" : Str) = none := by simp [rgf, List.lookup, rgf_mblocked_down_0, rgf_mblocked_down_1, rgf_mblocked_down_2, rgf_mblocked_down_3, rgf_mblocked_down_4, rgf_mblocked_down_5, rgf_mblocked_down_6, rgf_mblocked_down_7]
theorem rgf_mblocked_up_0 : (("blocked_up" : Str) == "depth") = false := by decide +kernel
theorem rgf_mblocked_up_1 : (("blocked_up" : Str) == "spills") = false := by decide +kernel
theorem rgf_mblocked_up_2 : (("blocked_up" : Str) == "fills") = false := by decide +kernel
theorem rgf_mblocked_up_3 : (("blocked_up" : Str) == "resident") = false := by decide +kernel
theorem rgf_mblocked_up_4 : (("blocked_up" : Str) == "_memory") = false := by decide +kernel
theorem rgf_mblocked_up_5 : (("blocked_up" : Str) == "_most") = false := by decide +kernel
theorem rgf_mblocked_up_6 : (("blocked_up" : Str) == "_view") = false := by decide +kernel
theorem rgf_mblocked_up_7 : (("blocked_up" : Str) == "_above") = false := by decide +kernel
theorem rgf_no_blocked_up (x0 : Int) (x1 : Int) (x2 : Int) (x3 : Int) (x4 : Addr) (x5 : Int) (x6 : Addr) (x7 : Addr) : (rgf x0 x1 x2 x3 x4 x5 x6 x7).lookup ("blocked_up" : Str) = none := by simp [rgf, List.lookup, rgf_mblocked_up_0, rgf_mblocked_up_1, rgf_mblocked_up_2, rgf_mblocked_up_3, rgf_mblocked_up_4, rgf_mblocked_up_5, rgf_mblocked_up_6, rgf_mblocked_up_7]
theorem rgf_m_spill_0 : (("_spill" : Str) == "depth") = false := by decide +kernel
theorem rgf_m_spill_1 : (("_spill" : Str) == "spills") = false := by decide +kernel
theorem rgf_m_spill_2 : (("_spill" : Str) == "fills") = false := by decide +kernel
theorem rgf_m_spill_3 : (("_spill" : Str) == "resident") = false := by decide +kernel
theorem rgf_m_spill_4 : (("_spill" : Str) == "_memory") = false := by decide +kernel
theorem rgf_m_spill_5 : (("_spill" : Str) == "_most") = false := by decide +kernel
theorem rgf_m_spill_6 : (("_spill" : Str) == "_view") = false := by decide +kernel
theorem rgf_m_spill_7 : (("_spill" : Str) == "_above") = false := by decide +kernel
theorem rgf_no__spill (x0 : Int) (x1 : Int) (x2 : Int) (x3 : Int) (x4 : Addr) (x5 : Int) (x6 : Addr) (x7 : Addr) : (rgf x0 x1 x2 x3 x4 x5 x6 x7).lookup ("_spill" : Str) = none := by simp [rgf, List.lookup, rgf_m_spill_0, rgf_m_spill_1, rgf_m_spill_2, rgf_m_spill_3, rgf_m_spill_4, rgf_m_spill_5, rgf_m_spill_6, rgf_m_spill_7]
theorem rgf_m_fill_0 : (("_fill" : Str) == "depth") = false := by decide +kernel
theorem rgf_m_fill_1 : (("_fill" : Str) == "spills") = false := by decide +kernel
theorem rgf_m_fill_2 : (("_fill" : Str) == "fills") = false := by decide +kernel
theorem rgf_m_fill_3 : (("_fill" : Str) == "resident") = false := by decide +kernel
theorem rgf_m_fill_4 : (("_fill" : Str) == "_memory") = false := by decide +kernel
theorem rgf_m_fill_5 : (("_fill" : Str) == "_most") = false := by decide +kernel
theorem rgf_m_fill_6 : (("_fill" : Str) == "_view") = false := by decide +kernel
theorem rgf_m_fill_7 : (("_fill" : Str) == "_above") = false := by decide +kernel
theorem rgf_no__fill (x0 : Int) (x1 : Int) (x2 : Int) (x3 : Int) (x4 : Addr) (x5 : Int) (x6 : Addr) (x7 : Addr) : (rgf x0 x1 x2 x3 x4 x5 x6 x7).lookup ("_fill" : Str) = none := by simp [rgf, List.lookup, rgf_m_fill_0, rgf_m_fill_1, rgf_m_fill_2, rgf_m_fill_3, rgf_m_fill_4, rgf_m_fill_5, rgf_m_fill_6, rgf_m_fill_7]
theorem rgf_m_save_area_0 : (("_save_area" : Str) == "depth") = false := by decide +kernel
theorem rgf_m_save_area_1 : (("_save_area" : Str) == "spills") = false := by decide +kernel
theorem rgf_m_save_area_2 : (("_save_area" : Str) == "fills") = false := by decide +kernel
theorem rgf_m_save_area_3 : (("_save_area" : Str) == "resident") = false := by decide +kernel
theorem rgf_m_save_area_4 : (("_save_area" : Str) == "_memory") = false := by decide +kernel
theorem rgf_m_save_area_5 : (("_save_area" : Str) == "_most") = false := by decide +kernel
theorem rgf_m_save_area_6 : (("_save_area" : Str) == "_view") = false := by decide +kernel
theorem rgf_m_save_area_7 : (("_save_area" : Str) == "_above") = false := by decide +kernel
theorem rgf_no__save_area (x0 : Int) (x1 : Int) (x2 : Int) (x3 : Int) (x4 : Addr) (x5 : Int) (x6 : Addr) (x7 : Addr) : (rgf x0 x1 x2 x3 x4 x5 x6 x7).lookup ("_save_area" : Str) = none := by simp [rgf, List.lookup, rgf_m_save_area_0, rgf_m_save_area_1, rgf_m_save_area_2, rgf_m_save_area_3, rgf_m_save_area_4, rgf_m_save_area_5, rgf_m_save_area_6, rgf_m_save_area_7]
theorem rgf_put_depth (x0 : Int) (x1 : Int) (x2 : Int) (x3 : Int) (x4 : Addr) (x5 : Int) (x6 : Addr) (x7 : Addr) (y : Int) : putF "depth" (V.int y) (rgf x0 x1 x2 x3 x4 x5 x6 x7) = rgf y x1 x2 x3 x4 x5 x6 x7 := by simp [putF, rgf, rgf_q1_0, rgf_q2_0, rgf_q3_0, rgf_q4_0, rgf_q5_0, rgf_q6_0, rgf_q7_0]
theorem rgf_put_spills (x0 : Int) (x1 : Int) (x2 : Int) (x3 : Int) (x4 : Addr) (x5 : Int) (x6 : Addr) (x7 : Addr) (y : Int) : putF "spills" (V.int y) (rgf x0 x1 x2 x3 x4 x5 x6 x7) = rgf x0 y x2 x3 x4 x5 x6 x7 := by simp [putF, rgf, rgf_q0_1, rgf_q2_1, rgf_q3_1, rgf_q4_1, rgf_q5_1, rgf_q6_1, rgf_q7_1]
theorem rgf_put_fills (x0 : Int) (x1 : Int) (x2 : Int) (x3 : Int) (x4 : Addr) (x5 : Int) (x6 : Addr) (x7 : Addr) (y : Int) : putF "fills" (V.int y) (rgf x0 x1 x2 x3 x4 x5 x6 x7) = rgf x0 x1 y x3 x4 x5 x6 x7 := by simp [putF, rgf, rgf_q0_2, rgf_q1_2, rgf_q3_2, rgf_q4_2, rgf_q5_2, rgf_q6_2, rgf_q7_2]
theorem rgf_put_resident (x0 : Int) (x1 : Int) (x2 : Int) (x3 : Int) (x4 : Addr) (x5 : Int) (x6 : Addr) (x7 : Addr) (y : Int) : putF "resident" (V.int y) (rgf x0 x1 x2 x3 x4 x5 x6 x7) = rgf x0 x1 x2 y x4 x5 x6 x7 := by simp [putF, rgf, rgf_q0_3, rgf_q1_3, rgf_q2_3, rgf_q4_3, rgf_q5_3, rgf_q6_3, rgf_q7_3]
theorem rgf_put__memory (x0 : Int) (x1 : Int) (x2 : Int) (x3 : Int) (x4 : Addr) (x5 : Int) (x6 : Addr) (x7 : Addr) (y : Addr) : putF "_memory" (V.ref y) (rgf x0 x1 x2 x3 x4 x5 x6 x7) = rgf x0 x1 x2 x3 y x5 x6 x7 := by simp [putF, rgf, rgf_q0_4, rgf_q1_4, rgf_q2_4, rgf_q3_4, rgf_q5_4, rgf_q6_4, rgf_q7_4]
theorem rgf_put__most (x0 : Int) (x1 : Int) (x2 : Int) (x3 : Int) (x4 : Addr) (x5 : Int) (x6 : Addr) (x7 : Addr) (y : Int) : putF "_most" (V.int y) (rgf x0 x1 x2 x3 x4 x5 x6 x7) = rgf x0 x1 x2 x3 x4 y x6 x7 := by simp [putF, rgf, rgf_q0_5, rgf_q1_5, rgf_q2_5, rgf_q3_5, rgf_q4_5, rgf_q6_5, rgf_q7_5]
theorem rgf_put__view (x0 : Int) (x1 : Int) (x2 : Int) (x3 : Int) (x4 : Addr) (x5 : Int) (x6 : Addr) (x7 : Addr) (y : Addr) : putF "_view" (V.ref y) (rgf x0 x1 x2 x3 x4 x5 x6 x7) = rgf x0 x1 x2 x3 x4 x5 y x7 := by simp [putF, rgf, rgf_q0_6, rgf_q1_6, rgf_q2_6, rgf_q3_6, rgf_q4_6, rgf_q5_6, rgf_q7_6]
theorem rgf_put__above (x0 : Int) (x1 : Int) (x2 : Int) (x3 : Int) (x4 : Addr) (x5 : Int) (x6 : Addr) (x7 : Addr) (y : Addr) : putF "_above" (V.ref y) (rgf x0 x1 x2 x3 x4 x5 x6 x7) = rgf x0 x1 x2 x3 x4 x5 x6 y := by simp [putF, rgf, rgf_q0_7, rgf_q1_7, rgf_q2_7, rgf_q3_7, rgf_q4_7, rgf_q5_7, rgf_q6_7]
theorem rgf_mk (x0 : Int) (x1 : Int) (x2 : Int) (x3 : Int) (x4 : Addr) (x5 : Int) (x6 : Addr) (x7 : Addr) : putF "_above" (V.ref x7) (putF "_view" (V.ref x6) (putF "_most" (V.int x5) (putF "_memory" (V.ref x4) (putF "resident" (V.int x3) (putF "fills" (V.int x2) (putF "spills" (V.int x1) (putF "depth" (V.int x0) []))))))) = rgf x0 x1 x2 x3 x4 x5 x6 x7 := by simp [putF, rgf, rgf_q0_1, rgf_q0_2, rgf_q0_3, rgf_q0_4, rgf_q0_5, rgf_q0_6, rgf_q0_7, rgf_q1_0, rgf_q1_2, rgf_q1_3, rgf_q1_4, rgf_q1_5, rgf_q1_6, rgf_q1_7, rgf_q2_0, rgf_q2_1, rgf_q2_3, rgf_q2_4, rgf_q2_5, rgf_q2_6, rgf_q2_7, rgf_q3_0, rgf_q3_1, rgf_q3_2, rgf_q3_4, rgf_q3_5, rgf_q3_6, rgf_q3_7, rgf_q4_0, rgf_q4_1, rgf_q4_2, rgf_q4_3, rgf_q4_5, rgf_q4_6, rgf_q4_7, rgf_q5_0, rgf_q5_1, rgf_q5_2, rgf_q5_3, rgf_q5_4, rgf_q5_6, rgf_q5_7, rgf_q6_0, rgf_q6_1, rgf_q6_2, rgf_q6_3, rgf_q6_4, rgf_q6_5, rgf_q6_7, rgf_q7_0, rgf_q7_1, rgf_q7_2, rgf_q7_3, rgf_q7_4, rgf_q7_5, rgf_q7_6]
theorem rgf_len1 (x0 : Int) : (putF "depth" (V.int x0) ([])).length < 1000 := by simp [putF, rgf_q0_1, rgf_q0_2, rgf_q0_3, rgf_q0_4, rgf_q0_5, rgf_q0_6, rgf_q0_7, rgf_q1_0, rgf_q1_2, rgf_q1_3, rgf_q1_4, rgf_q1_5, rgf_q1_6, rgf_q1_7, rgf_q2_0, rgf_q2_1, rgf_q2_3, rgf_q2_4, rgf_q2_5, rgf_q2_6, rgf_q2_7, rgf_q3_0, rgf_q3_1, rgf_q3_2, rgf_q3_4, rgf_q3_5, rgf_q3_6, rgf_q3_7, rgf_q4_0, rgf_q4_1, rgf_q4_2, rgf_q4_3, rgf_q4_5, rgf_q4_6, rgf_q4_7, rgf_q5_0, rgf_q5_1, rgf_q5_2, rgf_q5_3, rgf_q5_4, rgf_q5_6, rgf_q5_7, rgf_q6_0, rgf_q6_1, rgf_q6_2, rgf_q6_3, rgf_q6_4, rgf_q6_5, rgf_q6_7, rgf_q7_0, rgf_q7_1, rgf_q7_2, rgf_q7_3, rgf_q7_4, rgf_q7_5, rgf_q7_6]
theorem rgf_len2 (x0 : Int) (x1 : Int) : (putF "spills" (V.int x1) (putF "depth" (V.int x0) ([]))).length < 1000 := by simp [putF, rgf_q0_1, rgf_q0_2, rgf_q0_3, rgf_q0_4, rgf_q0_5, rgf_q0_6, rgf_q0_7, rgf_q1_0, rgf_q1_2, rgf_q1_3, rgf_q1_4, rgf_q1_5, rgf_q1_6, rgf_q1_7, rgf_q2_0, rgf_q2_1, rgf_q2_3, rgf_q2_4, rgf_q2_5, rgf_q2_6, rgf_q2_7, rgf_q3_0, rgf_q3_1, rgf_q3_2, rgf_q3_4, rgf_q3_5, rgf_q3_6, rgf_q3_7, rgf_q4_0, rgf_q4_1, rgf_q4_2, rgf_q4_3, rgf_q4_5, rgf_q4_6, rgf_q4_7, rgf_q5_0, rgf_q5_1, rgf_q5_2, rgf_q5_3, rgf_q5_4, rgf_q5_6, rgf_q5_7, rgf_q6_0, rgf_q6_1, rgf_q6_2, rgf_q6_3, rgf_q6_4, rgf_q6_5, rgf_q6_7, rgf_q7_0, rgf_q7_1, rgf_q7_2, rgf_q7_3, rgf_q7_4, rgf_q7_5, rgf_q7_6]
theorem rgf_len3 (x0 : Int) (x1 : Int) (x2 : Int) : (putF "fills" (V.int x2) (putF "spills" (V.int x1) (putF "depth" (V.int x0) ([])))).length < 1000 := by simp [putF, rgf_q0_1, rgf_q0_2, rgf_q0_3, rgf_q0_4, rgf_q0_5, rgf_q0_6, rgf_q0_7, rgf_q1_0, rgf_q1_2, rgf_q1_3, rgf_q1_4, rgf_q1_5, rgf_q1_6, rgf_q1_7, rgf_q2_0, rgf_q2_1, rgf_q2_3, rgf_q2_4, rgf_q2_5, rgf_q2_6, rgf_q2_7, rgf_q3_0, rgf_q3_1, rgf_q3_2, rgf_q3_4, rgf_q3_5, rgf_q3_6, rgf_q3_7, rgf_q4_0, rgf_q4_1, rgf_q4_2, rgf_q4_3, rgf_q4_5, rgf_q4_6, rgf_q4_7, rgf_q5_0, rgf_q5_1, rgf_q5_2, rgf_q5_3, rgf_q5_4, rgf_q5_6, rgf_q5_7, rgf_q6_0, rgf_q6_1, rgf_q6_2, rgf_q6_3, rgf_q6_4, rgf_q6_5, rgf_q6_7, rgf_q7_0, rgf_q7_1, rgf_q7_2, rgf_q7_3, rgf_q7_4, rgf_q7_5, rgf_q7_6]
theorem rgf_len4 (x0 : Int) (x1 : Int) (x2 : Int) (x3 : Int) : (putF "resident" (V.int x3) (putF "fills" (V.int x2) (putF "spills" (V.int x1) (putF "depth" (V.int x0) ([]))))).length < 1000 := by simp [putF, rgf_q0_1, rgf_q0_2, rgf_q0_3, rgf_q0_4, rgf_q0_5, rgf_q0_6, rgf_q0_7, rgf_q1_0, rgf_q1_2, rgf_q1_3, rgf_q1_4, rgf_q1_5, rgf_q1_6, rgf_q1_7, rgf_q2_0, rgf_q2_1, rgf_q2_3, rgf_q2_4, rgf_q2_5, rgf_q2_6, rgf_q2_7, rgf_q3_0, rgf_q3_1, rgf_q3_2, rgf_q3_4, rgf_q3_5, rgf_q3_6, rgf_q3_7, rgf_q4_0, rgf_q4_1, rgf_q4_2, rgf_q4_3, rgf_q4_5, rgf_q4_6, rgf_q4_7, rgf_q5_0, rgf_q5_1, rgf_q5_2, rgf_q5_3, rgf_q5_4, rgf_q5_6, rgf_q5_7, rgf_q6_0, rgf_q6_1, rgf_q6_2, rgf_q6_3, rgf_q6_4, rgf_q6_5, rgf_q6_7, rgf_q7_0, rgf_q7_1, rgf_q7_2, rgf_q7_3, rgf_q7_4, rgf_q7_5, rgf_q7_6]
theorem rgf_len5 (x0 : Int) (x1 : Int) (x2 : Int) (x3 : Int) (x4 : Addr) : (putF "_memory" (V.ref x4) (putF "resident" (V.int x3) (putF "fills" (V.int x2) (putF "spills" (V.int x1) (putF "depth" (V.int x0) ([])))))).length < 1000 := by simp [putF, rgf_q0_1, rgf_q0_2, rgf_q0_3, rgf_q0_4, rgf_q0_5, rgf_q0_6, rgf_q0_7, rgf_q1_0, rgf_q1_2, rgf_q1_3, rgf_q1_4, rgf_q1_5, rgf_q1_6, rgf_q1_7, rgf_q2_0, rgf_q2_1, rgf_q2_3, rgf_q2_4, rgf_q2_5, rgf_q2_6, rgf_q2_7, rgf_q3_0, rgf_q3_1, rgf_q3_2, rgf_q3_4, rgf_q3_5, rgf_q3_6, rgf_q3_7, rgf_q4_0, rgf_q4_1, rgf_q4_2, rgf_q4_3, rgf_q4_5, rgf_q4_6, rgf_q4_7, rgf_q5_0, rgf_q5_1, rgf_q5_2, rgf_q5_3, rgf_q5_4, rgf_q5_6, rgf_q5_7, rgf_q6_0, rgf_q6_1, rgf_q6_2, rgf_q6_3, rgf_q6_4, rgf_q6_5, rgf_q6_7, rgf_q7_0, rgf_q7_1, rgf_q7_2, rgf_q7_3, rgf_q7_4, rgf_q7_5, rgf_q7_6]
theorem rgf_len6 (x0 : Int) (x1 : Int) (x2 : Int) (x3 : Int) (x4 : Addr) (x5 : Int) : (putF "_most" (V.int x5) (putF "_memory" (V.ref x4) (putF "resident" (V.int x3) (putF "fills" (V.int x2) (putF "spills" (V.int x1) (putF "depth" (V.int x0) ([]))))))).length < 1000 := by simp [putF, rgf_q0_1, rgf_q0_2, rgf_q0_3, rgf_q0_4, rgf_q0_5, rgf_q0_6, rgf_q0_7, rgf_q1_0, rgf_q1_2, rgf_q1_3, rgf_q1_4, rgf_q1_5, rgf_q1_6, rgf_q1_7, rgf_q2_0, rgf_q2_1, rgf_q2_3, rgf_q2_4, rgf_q2_5, rgf_q2_6, rgf_q2_7, rgf_q3_0, rgf_q3_1, rgf_q3_2, rgf_q3_4, rgf_q3_5, rgf_q3_6, rgf_q3_7, rgf_q4_0, rgf_q4_1, rgf_q4_2, rgf_q4_3, rgf_q4_5, rgf_q4_6, rgf_q4_7, rgf_q5_0, rgf_q5_1, rgf_q5_2, rgf_q5_3, rgf_q5_4, rgf_q5_6, rgf_q5_7, rgf_q6_0, rgf_q6_1, rgf_q6_2, rgf_q6_3, rgf_q6_4, rgf_q6_5, rgf_q6_7, rgf_q7_0, rgf_q7_1, rgf_q7_2, rgf_q7_3, rgf_q7_4, rgf_q7_5, rgf_q7_6]
theorem rgf_len7 (x0 : Int) (x1 : Int) (x2 : Int) (x3 : Int) (x4 : Addr) (x5 : Int) (x6 : Addr) : (putF "_view" (V.ref x6) (putF "_most" (V.int x5) (putF "_memory" (V.ref x4) (putF "resident" (V.int x3) (putF "fills" (V.int x2) (putF "spills" (V.int x1) (putF "depth" (V.int x0) ([])))))))).length < 1000 := by simp [putF, rgf_q0_1, rgf_q0_2, rgf_q0_3, rgf_q0_4, rgf_q0_5, rgf_q0_6, rgf_q0_7, rgf_q1_0, rgf_q1_2, rgf_q1_3, rgf_q1_4, rgf_q1_5, rgf_q1_6, rgf_q1_7, rgf_q2_0, rgf_q2_1, rgf_q2_3, rgf_q2_4, rgf_q2_5, rgf_q2_6, rgf_q2_7, rgf_q3_0, rgf_q3_1, rgf_q3_2, rgf_q3_4, rgf_q3_5, rgf_q3_6, rgf_q3_7, rgf_q4_0, rgf_q4_1, rgf_q4_2, rgf_q4_3, rgf_q4_5, rgf_q4_6, rgf_q4_7, rgf_q5_0, rgf_q5_1, rgf_q5_2, rgf_q5_3, rgf_q5_4, rgf_q5_6, rgf_q5_7, rgf_q6_0, rgf_q6_1, rgf_q6_2, rgf_q6_3, rgf_q6_4, rgf_q6_5, rgf_q6_7, rgf_q7_0, rgf_q7_1, rgf_q7_2, rgf_q7_3, rgf_q7_4, rgf_q7_5, rgf_q7_6]

/-! ### windows, in plain terms -/
structure Ab where
  G : List Int
  R : Nat → List Int
  L : Nat → List Int
  n : Nat
def z8 : List Int := List.replicate 8 0
def upF (f : Nat → List Int) (k : Nat) (y : List Int) : Nat → List Int := fun j => if j = k then y else f j
theorem upF_same {f : Nat → List Int} {k : Nat} {y : List Int} : upF f k y k = y := if_pos rfl
theorem upF_ne {f : Nat → List Int} {k j : Nat} {y : List Int} (h : j ≠ k) : upF f k y j = f j := if_neg h
theorem setL {xs ys : List Int} {n j : Nat} {w : Int} (e : xs.length = n) (h : j < n) : (xs ++ ys).set j w = xs.set j w ++ ys := List.set_append_left _ _ (by rw [e]; exact h)
theorem setR {xs ys : List Int} {n j : Nat} {w : Int} (e : xs.length = n) (h : n ≤ j) : (xs ++ ys).set j w = xs ++ ys.set (j - n) w := by rw [List.set_append_right _ _ (by rw [e]; exact h), e]
namespace Ab
structure ok (A : Ab) : Prop where
  g : A.G.length = 8
  r : ∀ k, (A.R k).length = 8
  l : ∀ k, (A.L k).length = 8
def view (A : Ab) : List Int := A.G ++ (A.R (A.n + 1) ++ (A.L A.n ++ A.R A.n))
def zero : Ab := ⟨z8, fun _ => z8, fun _ => z8, 0⟩
def down (A : Ab) : Ab := ⟨A.G, upF A.R (A.n + 2) z8, upF A.L (A.n + 1) z8, A.n + 1⟩
def up (A : Ab) : Ab := { A with n := A.n - 1 }
def wr (A : Ab) (j : Nat) (w : Int) : Ab :=
  if j = 0 then A else if j < 8 then { A with G := A.G.set j w } else if j < 16 then { A with R := upF A.R (A.n + 1) ((A.R (A.n + 1)).set (j - 8) w) }
  else if j < 24 then { A with L := upF A.L A.n ((A.L A.n).set (j - 16) w) } else { A with R := upF A.R A.n ((A.R A.n).set (j - 24) w) }
variable {A : Ab}
theorem zero_ok : zero.ok := ⟨rfl, fun _ => rfl, fun _ => rfl⟩
theorem ok.view (h : A.ok) : A.view.length = 32 := by simp [Ab.view, h.g, h.r, h.l]
theorem ok.down (h : A.ok) : A.down.ok := by
  refine ⟨h.g, fun k => ?_, fun k => ?_⟩
  · show (upF _ _ _ k).length = 8
    unfold upF; split
    · rfl
    · exact h.r k
  · show (upF _ _ _ k).length = 8
    unfold upF; split
    · rfl
    · exact h.l k
theorem ok.up (h : A.ok) : A.up.ok := ⟨h.g, h.r, h.l⟩
theorem upF_len {f : Nat → List Int} {k : Nat} {y : List Int} (h : ∀ k, (f k).length = 8) (hy : y.length = 8) : ∀ j, (upF f k y j).length = 8 := fun j => by
  unfold upF; split
  · exact hy
  · exact h j
theorem ok.wr (h : A.ok) (j : Nat) (w : Int) : (A.wr j w).ok := by
  unfold Ab.wr
  split
  · exact h
  split
  · exact ⟨by simp [h.g], h.r, h.l⟩
  split
  · exact ⟨h.g, upF_len h.r (by simp [h.r]), h.l⟩
  split
  · exact ⟨h.g, h.r, upF_len h.l (by simp [h.l])⟩
  · exact ⟨h.g, upF_len h.r (by simp [h.r]), h.l⟩
theorem wr_n (j : Nat) (w : Int) : (A.wr j w).n = A.n := by
  unfold wr
  repeat' split
  all_goals rfl
theorem view_down (h : A.ok) : A.down.view = A.view.take 8 ++ (List.replicate 16 0 ++ (A.view.drop 8).take 8) := by
  have e1 : A.view.take 8 = A.G := List.take_left' h.g
  have e2 : A.view.drop 8 = A.R (A.n + 1) ++ (A.L A.n ++ A.R A.n) := List.drop_left' h.g
  have e3 : (A.view.drop 8).take 8 = A.R (A.n + 1) := by rw [e2]; exact List.take_left' (h.r _)
  rw [e1, e3]
  show A.G ++ (upF A.R (A.n + 2) z8 (A.n + 1 + 1) ++ (upF A.L (A.n + 1) z8 (A.n + 1) ++ upF A.R (A.n + 2) z8 (A.n + 1))) = _
  rw [show A.n + 1 + 1 = A.n + 2 from rfl, upF_same, upF_same, upF_ne (by omega), ← List.append_assoc z8]
  rfl
theorem view_ins (h : A.ok) : A.view.drop 16 = A.L A.n ++ A.R A.n := by
  have e : A.view = (A.G ++ A.R (A.n + 1)) ++ (A.L A.n ++ A.R A.n) := by simp [Ab.view]
  rw [e]
  exact List.drop_left' (by simp [h.g, h.r])
theorem view_up (h : A.ok) {m : Nat} (hm : A.n = m + 1) : A.up.view = A.view.take 8 ++ (A.view.drop 24 ++ (A.L m ++ A.R m)) := by
  have e1 : A.view.take 8 = A.G := List.take_left' h.g
  have e2 : A.view = (A.G ++ (A.R (A.n + 1) ++ A.L A.n)) ++ A.R A.n := by simp [Ab.view]
  have e3 : A.view.drop 24 = A.R A.n := by rw [e2]; exact List.drop_left' (by simp [h.g, h.r, h.l])
  rw [e1, e3]
  show A.G ++ (A.R (A.n - 1 + 1) ++ (A.L (A.n - 1) ++ A.R (A.n - 1))) = _
  rw [hm, show m + 1 - 1 = m from rfl]
theorem view_wr (h : A.ok) {j : Nat} (hj : j < 32) (h0 : j ≠ 0) (w : Int) : (A.wr j w).view = A.view.set j w := by
  have hg := h.g
  have hr1 := h.r (A.n + 1)
  have hl := h.l A.n
  unfold wr
  rw [if_neg h0]
  by_cases c1 : j < 8
  · rw [if_pos c1]
    exact (setL hg c1).symm
  rw [if_neg c1]
  by_cases c2 : j < 16
  · rw [if_pos c2]
    show A.G ++ (upF _ _ _ (A.n + 1) ++ (A.L A.n ++ upF _ _ _ A.n)) = _
    rw [upF_same, upF_ne (by omega)]
    unfold Ab.view
    rw [setR hg (by omega), setL hr1 (by omega)]
  rw [if_neg c2]
  by_cases c3 : j < 24
  · rw [if_pos c3]
    show A.G ++ (A.R (A.n + 1) ++ (upF _ _ _ A.n ++ A.R A.n)) = _
    rw [upF_same]
    unfold Ab.view
    rw [setR hg (by omega), setR hr1 (by omega), setL hl (by omega), show j - 8 - 8 = j - 16 by omega]
  rw [if_neg c3]
  show A.G ++ (upF _ _ _ (A.n + 1) ++ (A.L A.n ++ upF _ _ _ A.n)) = _
  rw [upF_same, upF_ne (by omega)]
  unfold Ab.view
  rw [setR hg (by omega), setR hr1 (by omega), setR hl (by omega), show j - 8 - 8 - 8 = j - 24 by omega]
theorem wr_row {j : Nat} (w : Int) {k : Nat} (hk : k < A.n) : (A.wr j w).L k ++ (A.wr j w).R k = A.L k ++ A.R k := by
  unfold wr
  repeat' split
  all_goals first
    | rfl
    | (show _ ++ upF _ _ _ k = _; rw [upF_ne (by omega)])
    | (show upF _ _ _ k ++ _ = _; rw [upF_ne (by omega)])
end Ab

def spEV : Sp := fun vs H Q _ => vs = [] ∧ ∀ p H', H p = none → Same H H' → H' p = some (.lst ((List.replicate 32 (0 : Int)).map V.int)) → Q (.ref p) H'
def spLI : Sp := fun vs H Q _ => ∃ (v : Addr) (ys : List Int), vs = [.ref v] ∧ H v = some (.lst (ys.map V.int)) ∧ ∀ p, H p = none → Q (.ref p) (upd H p (.lst ((ys.drop 16).map V.int)))
def spVB : Sp := fun vs H Q _ => ∃ (v : Addr) (ys : List Int), vs = [.ref v] ∧ H v = some (.lst (ys.map V.int)) ∧ ys.length = 32 ∧ ∀ p H', H p = none → Same H H' → H' p = some (.lst ((ys.take 8 ++ (List.replicate 16 0 ++ (ys.drop 8).take 8)).map V.int)) → Q (.ref p) H'
def spVA : Sp := fun vs H Q _ => ∃ (v u : Addr) (ys ws : List Int), vs = [.ref v, .ref u] ∧ H v = some (.lst (ys.map V.int)) ∧ H u = some (.lst (ws.map V.int)) ∧ ys.length = 32 ∧ ws.length = 16 ∧ ∀ p H', H p = none → Same H H' → H' p = some (.lst ((ys.take 8 ++ (ys.drop 24 ++ ws)).map V.int)) → Q (.ref p) H'
section
variable {P : Program} {w : World} {K : PySem.W.Frag} {mg : Str → Option Value} {base : Heap} {a : Ad}
theorem ok_empty_view (T : Txt w K mg a) : FnOk P w K mg base CX0 1 a.f_empty_view a.d_empty_view [] spEV := by
  refine T.F_empty_view.ok sc_empty_view (fun vs H Q E h => ?_) (fun cdv A outer s H vs Q E hr h => ?_)
  · obtain ⟨rfl, _⟩ := h; rfl
  · obtain ⟨rfl, q⟩ := h
    refine ⟨_, (pss_one (ps_ret (pe_op op_rep (pe_lst (pa_cons pe_int pa_nil)) pe_int))), ?_⟩
    refine ⟨(by show 1 ≤ sizeLine; decide), fun p1 n1 => ⟨_, _, _, rfl, rfl, upd_same, by decide, by decide, (by show 1 * 32 ≤ sizeLine; decide), fun p n => ?_⟩⟩
    refine q p _ ((sN (Same.refl H) n1).free n) (sN (sN (Same.refl H) n1) n) ?_
    rw [upd_same]
    exact congrArg (fun z => some (HO.lst z)) (rep_int 32)
theorem ok_locals_and_ins (T : Txt w K mg a) : FnOk P w K mg base CX0 1 a.f_locals_and_ins a.d_locals_and_ins ["view"] spLI := by
  refine T.F_locals_and_ins.ok sc_locals_and_ins (fun vs H Q E h => ?_) (fun cdv A outer s H vs Q E hr h => ?_)
  · obtain ⟨_, _, rfl, _⟩ := h; rfl
  · obtain ⟨v, ys, rfl, hv, q⟩ := h
    refine ⟨_, (pss_one (ps_ret (pe_slice sl_list (pv 0) (po_some (pe_glob (v := .int (16)) rfl T.g_FIRST_LOCAL ⟨_, rfl⟩)) po_none))), ?_⟩
    refine ⟨_, rfl, _, rfl, v, _, rfl, SqL.of hv, fun p n => ?_⟩
    rw [show cutV (ys.map V.int) (some 16) none = (ys.drop 16).map V.int by rw [show (16 : Int) = ((16 : Nat) : Int) from rfl, cut_lo, List.map_drop]]
    exact q p n
theorem ok_view_below (T : Txt w K mg a) : FnOk P w K mg base CX0 1 a.f_view_below a.d_view_below ["view"] spVB := by
  refine T.F_view_below.ok sc_view_below (fun vs H Q E h => ?_) (fun cdv A outer s H vs Q E hr h => ?_)
  · obtain ⟨_, _, rfl, _⟩ := h; rfl
  · obtain ⟨v, ys, rfl, hv, hl, q⟩ := h
    refine ⟨_, (pss_one (ps_ret (pe_op op_cat (pe_op op_cat (pe_slice sl_list (pv 0) po_none (po_some (pe_glob (v := .int (8)) rfl T.g_FIRST_OUT ⟨_, rfl⟩))) (pe_op op_rep (pe_lst (pa_cons pe_int pa_nil)) (pe_op op_sub (pe_glob (v := .int (24)) rfl T.g_FIRST_IN ⟨_, rfl⟩) (pe_glob (v := .int (8)) rfl T.g_FIRST_OUT ⟨_, rfl⟩)))) (pe_slice sl_list (pv 0) (po_some (pe_glob (v := .int (8)) rfl T.g_FIRST_OUT ⟨_, rfl⟩)) (po_some (pe_glob (v := .int (16)) rfl T.g_FIRST_LOCAL ⟨_, rfl⟩)))))), ?_⟩
    refine ⟨_, rfl, _, rfl, v, _, rfl, SqL.of hv, fun p1 n1 => ?_⟩
    rw [show cutV (ys.map V.int) none (some 8) = (ys.take 8).map V.int by rw [show (8 : Int) = ((8 : Nat) : Int) from rfl, cut_hi, List.map_take]]
    have s1 := sN (Same.refl H) n1 (o := .lst ((ys.take 8).map V.int))
    refine ⟨(by show 1 ≤ sizeLine; decide), fun p2 n2 => ?_⟩
    have s2 := sN s1 n2 (o := .lst [V.int 0])
    have a1 := sN (Same.refl _) n2 (o := .lst [V.int 0]) p1 _ upd_same
    refine ⟨_, _, rfl, rfl, _, _, _, rfl, rfl, upd_same, by decide, by decide, (by show 1 * 16 ≤ sizeLine; decide), fun p3 n3 => ?_⟩
    rw [show (List.replicate ((24 : Int) - 8).toNat [V.int 0]).flatten = (List.replicate 16 (0 : Int)).map V.int from rep_int 16]
    have s3 := sN s2 n3 (o := .lst ((List.replicate 16 (0 : Int)).map V.int))
    have a3 := sN (Same.refl _) n3 (o := .lst ((List.replicate 16 (0 : Int)).map V.int)) p1 _ a1
    refine ⟨_, _, _, _, rfl, rfl, a3, upd_same, by simp [hl]; decide, fun p4 n4 => ?_⟩
    have s4 := sN s3 n4 (o := .lst ((ys.take 8).map V.int ++ (List.replicate 16 (0 : Int)).map V.int))
    refine ⟨_, rfl, _, rfl, _, rfl, v, _, rfl, SqL.of (s4 _ _ hv), fun p5 n5 => ?_⟩
    rw [show cutV (ys.map V.int) (some 8) (some 16) = ((ys.drop 8).take 8).map V.int by rw [show (8 : Int) = ((8 : Nat) : Int) from rfl, show (16 : Int) = ((16 : Nat) : Int) from rfl, cut_mid _ _ _ (by decide) (by simp [hl]), List.map_take, List.map_drop]]
    have s5 := sN s4 n5 (o := .lst (((ys.drop 8).take 8).map V.int))
    have a5 := sN (Same.refl _) n5 (o := .lst (((ys.drop 8).take 8).map V.int)) p4 _ upd_same
    refine ⟨_, _, _, _, rfl, rfl, a5, upd_same, by simp [hl]; decide, fun p6 n6 => ?_⟩
    refine q p6 _ (s5.free n6) (sN s5 n6) ?_
    rw [upd_same, ← List.map_append, ← List.map_append, List.append_assoc]
theorem ok_view_above (T : Txt w K mg a) : FnOk P w K mg base CX0 1 a.f_view_above a.d_view_above ["view", "words"] spVA := by
  refine T.F_view_above.ok sc_view_above (fun vs H Q E h => ?_) (fun cdv A outer s H vs Q E hr h => ?_)
  · obtain ⟨_, _, _, _, rfl, _⟩ := h; rfl
  · obtain ⟨v, u, ys, ws, rfl, hv, hu, hl, hw, q⟩ := h
    refine ⟨_, (pss_one (ps_ret (pe_op op_cat (pe_op op_cat (pe_slice sl_list (pv 0) po_none (po_some (pe_glob (v := .int (8)) rfl T.g_FIRST_OUT ⟨_, rfl⟩))) (pe_slice sl_list (pv 0) (po_some (pe_glob (v := .int (24)) rfl T.g_FIRST_IN ⟨_, rfl⟩)) po_none)) (pv 1)))), ?_⟩
    refine ⟨_, rfl, _, rfl, v, _, rfl, SqL.of hv, fun p1 n1 => ?_⟩
    rw [show cutV (ys.map V.int) none (some 8) = (ys.take 8).map V.int by rw [show (8 : Int) = ((8 : Nat) : Int) from rfl, cut_hi, List.map_take]]
    have s1 := sN (Same.refl H) n1 (o := .lst ((ys.take 8).map V.int))
    refine ⟨_, rfl, _, rfl, v, _, rfl, SqL.of (s1 _ _ hv), fun p2 n2 => ?_⟩
    rw [show cutV (ys.map V.int) (some 24) none = (ys.drop 24).map V.int by rw [show (24 : Int) = ((24 : Nat) : Int) from rfl, cut_lo, List.map_drop]]
    have s2 := sN s1 n2 (o := .lst ((ys.drop 24).map V.int))
    have a1 := sN (Same.refl _) n2 (o := .lst ((ys.drop 24).map V.int)) p1 _ upd_same
    refine ⟨_, _, _, _, rfl, rfl, a1, upd_same, by simp [hl]; decide, fun p3 n3 => ?_⟩
    have s3 := sN s2 n3 (o := .lst ((ys.take 8).map V.int ++ (ys.drop 24).map V.int))
    refine ⟨_, rfl, _, _, _, _, rfl, rfl, upd_same, s3 _ _ hu, by simp [hl, hw]; decide, fun p4 n4 => ?_⟩
    refine q p4 _ (s3.free n4) (sN s3 n4) ?_
    rw [upd_same, ← List.map_append, ← List.map_append, List.append_assoc]
end

/-! ### a ring, in plain terms -/
structure RS where
  A : Ab
  b : Nat
  M : List Int
  sp : Int
  fi : Int
  W : Nat
def lies (M : List Int) (s : Int) : Prop := 0 ≤ s ∧ s + 16 ≤ M.length
instance (M : List Int) (s : Int) : Decidable (lies M s) := inferInstanceAs (Decidable (_ ∧ _))
namespace RS
structure ok (S : RS) : Prop where
  a : S.A.ok
  b : S.b ≤ S.A.n
  w : S.A.n + 2 ≤ S.b + S.W
  w3 : 3 ≤ S.W
  w4 : S.W ≤ 100
  m : S.M.length ≤ 900
  n : S.A.n ≤ 200
def sS (S : RS) : Int := (S.A.R (S.b + 1)).getD 6 0
def fS (S : RS) : Int := (S.A.R S.A.n).getD 6 0
def spill (S : RS) : RS := { S with M := S.M.take S.sS.toNat ++ (S.A.L S.b ++ S.A.R S.b) ++ S.M.drop (S.sS.toNat + 16), b := S.b + 1, sp := S.sp + 1 }
def fill (S : RS) : RS := { S with A := { S.A with L := upF S.A.L (S.b - 1) ((S.M.drop S.fS.toNat).take 8), R := upF S.A.R (S.b - 1) ((S.M.drop (S.fS.toNat + 8)).take 8) }, b := S.b - 1, fi := S.fi + 1 }
def full (S : RS) : Prop := S.A.n + 2 = S.b + S.W
instance (S : RS) : Decidable S.full := inferInstanceAs (Decidable (_ = _))
def dn (S : RS) : RS := { S with A := S.A.down }
def up1 (S : RS) : RS := { S with A := S.A.up }
variable {S : RS}
theorem ok.spill (h : S.ok) (f : S.full) (l : lies S.M S.sS) : S.spill.ok ∧ ¬ S.spill.full ∧ S.spill.M.length = S.M.length := by
  have hl := h.a.l S.b
  have hr := h.a.r S.b
  obtain ⟨l1, l2⟩ := l
  have e : S.spill.M.length = S.M.length := by
    show (S.M.take _ ++ (S.A.L S.b ++ S.A.R S.b) ++ S.M.drop _).length = _
    simp only [List.length_append, List.length_take, List.length_drop, hl, hr]
    omega
  have h3 := h.w3
  have f : S.A.n + 2 = S.b + S.W := f
  refine ⟨⟨h.a, ?_, ?_, h3, h.w4, by rw [e]; exact h.m, h.n⟩, ?_, e⟩
  · show S.b + 1 ≤ S.A.n; omega
  · show S.A.n + 2 ≤ S.b + 1 + S.W; omega
  · show ¬ S.A.n + 2 = S.b + 1 + S.W; omega
theorem ok.fill (h : S.ok) (b : S.b = S.A.n) (n : 0 < S.A.n) (l : lies S.M S.fS) : S.fill.ok ∧ S.fill.b < S.fill.A.n := by
  obtain ⟨l1, l2⟩ := l
  have h3 := h.w3
  refine ⟨⟨⟨h.a.g, Ab.upF_len h.a.r ?_, Ab.upF_len h.a.l ?_⟩, ?_, ?_, h3, h.w4, h.m, h.n⟩, ?_⟩
  · rw [List.length_take, List.length_drop]; omega
  · rw [List.length_take, List.length_drop]; omega
  · show S.b - 1 ≤ S.A.n; omega
  · show S.A.n + 2 ≤ S.b - 1 + S.W; omega
  · show S.b - 1 < S.A.n; omega
theorem ok.dn (h : S.ok) (f : ¬ S.full) (n : S.A.n ≤ 199) : S.dn.ok := by
  have hb := h.b
  have hw := h.w
  have f : ¬ S.A.n + 2 = S.b + S.W := f
  refine ⟨h.a.down, ?_, ?_, h.w3, h.w4, h.m, ?_⟩
  · show S.b ≤ S.A.n + 1; omega
  · show S.A.n + 1 + 2 ≤ S.b + S.W; omega
  · show S.A.n + 1 ≤ 200; omega
theorem ok.up1 (h : S.ok) (b : S.b < S.A.n) : S.up1.ok := by
  have hw := h.w
  have hn := h.n
  refine ⟨h.a.up, ?_, ?_, h.w3, h.w4, h.m, ?_⟩
  · show S.b ≤ S.A.n - 1; omega
  · show S.A.n - 1 + 2 ≤ S.b + S.W; omega
  · show S.A.n - 1 ≤ 200; omega
def wr (S : RS) (j : Nat) (w : Int) : RS := { S with A := S.A.wr j w }
theorem ok.wr (h : S.ok) (j : Nat) (w : Int) : (S.wr j w).ok := ⟨h.a.wr j w, by show S.b ≤ (S.A.wr j w).n; rw [Ab.wr_n]; exact h.b, by show (S.A.wr j w).n + 2 ≤ _; rw [Ab.wr_n]; exact h.w, h.w3, h.w4, h.m, by show (S.A.wr j w).n ≤ _; rw [Ab.wr_n]; exact h.n⟩
end RS
/-! ### a ring -/
structure RGx (C : Addr) (τ : Tg) (i : Nat) (H : Hp) (t dx me vw ab : Addr) (ar : Nat → Addr) (S : RS) : Prop where
  ob : At τ H t (.ins C dx (rgf S.A.n S.sp S.fi ((S.A.n : Int) + 1 - (S.b : Int)) me ((S.W : Int) - 1) vw ab)) (i, 0, 0)
  vw : At τ H vw (.lst (S.A.view.map V.int)) (i, 1, 0)
  ab : At τ H ab (.lst ((List.range (S.A.n - S.b)).map fun k => V.ref (ar (S.b + k)))) (i, 2, 0)
  ar : ∀ k, S.b ≤ k → k < S.A.n → At τ H (ar k) (.lst ((S.A.L k ++ S.A.R k).map V.int)) (i, 3, k)
  me : At τ H me (.lst (S.M.map V.int)) (8, 0, 0)
def RG (C : Addr) (τ : Tg) (i : Nat) (H : Hp) (t me : Addr) (S : RS) : Prop := ∃ dx vw ab ar, RGx C τ i H t dx me vw ab ar S
theorem RG.st {C : Addr} {τ τ' : Tg} {i : Nat} {H H' : Hp} {t me : Addr} {S : RS} {Z : List Nat} (h : RG C τ i H t me S) (s : Stp τ τ' Z H H') (n : i ∉ Z) (n8 : 8 ∉ Z) : RG C τ' i H' t me S := by
  obtain ⟨dx, vw, ab, ar, x⟩ := h
  exact ⟨dx, vw, ab, ar, x.ob.st s n, x.vw.st s n, x.ab.st s n, fun k h1 h2 => (x.ar k h1 h2).st s n, x.me.st s n8⟩
/-- the law writes the memory -/
theorem RG.me {C : Addr} {τ : Tg} {i : Nat} {H : Hp} {t me : Addr} {S : RS} {M : List Int} (h : RG C τ i H t me S) (n : i ≠ 8) : RG C τ i (upd H me (.lst (M.map V.int))) t me { S with M := M } := by
  obtain ⟨dx, vw, ab, ar, x⟩ := h
  exact ⟨dx, vw, ab, ar, x.ob.put x.me.2 (by simp [n]), x.vw.put x.me.2 (by simp), x.ab.put x.me.2 (by simp), fun k h1 h2 => (x.ar k h1 h2).put x.me.2 (by simp), .set x.me.2⟩
def spRI (C : Addr) : Sp := fun vs H Q _ => ∃ (τ : Tg) (i : Nat) (t me dx : Addr) (M : List Int) (W : Nat), vs = [.ref t, .ref me, .int W] ∧ i ≠ 8 ∧ At τ H t (.ins C dx []) (i, 0, 0) ∧ At τ H me (.lst (M.map V.int)) (8, 0, 0) ∧ ∀ τ' H', RG C τ' i H' t me ⟨.zero, 0, M, 0, 0, W⟩ → Stp τ τ' [i] H H' → Q .non H'
def spRR (C : Addr) : Sp := fun vs H Q _ => ∃ (τ : Tg) (i : Nat) (t me : Addr) (S : RS) (j : Nat), vs = [.ref t, .int j] ∧ RG C τ i H t me S ∧ S.ok ∧ j < 32 ∧ Q (.int (S.A.view.getD j 0)) H
def spRW (C : Addr) : Sp := fun vs H Q _ => ∃ (τ : Tg) (i : Nat) (t me : Addr) (S : RS) (j : Nat) (w : Int), vs = [.ref t, .int j, .int w] ∧ i ≠ 8 ∧ RG C τ i H t me S ∧ S.ok ∧ j < 32 ∧ ∀ H', RG C τ i H' t me (S.wr j w) → Stp τ τ [i] H H' → Q .non H'
def spRB : Sp := fun vs H Q _ => ∃ x, vs = [x] ∧ Q (.bl false) H
def spRSA (C F : Addr) : Sp := fun vs H Q E => ∃ (τ : Tg) (i : Nat) (t me : Addr) (S : RS) (s : Int), vs = [.ref t, .int s] ∧ RG C τ i H t me S ∧ (lies S.M s → Q (.int s) H) ∧ (¬ lies S.M s → E (.ref F) none H)
def spRSp (C F : Addr) : Sp := fun vs H Q E => ∃ (τ : Tg) (i : Nat) (t me : Addr) (S : RS), vs = [.ref t] ∧ i ≠ 8 ∧ RG C τ i H t me S ∧ S.ok ∧ S.full ∧ (lies S.M S.sS → ∀ τ' H', RG C τ' i H' t me S.spill → Stp τ τ' [i, 8] H H' → Q .non H') ∧ (¬ lies S.M S.sS → ∀ τ' H', RG C τ' i H' t me S → Stp τ τ' [i, 8] H H' → E (.ref F) none H')
def spRF (C F : Addr) : Sp := fun vs H Q E => ∃ (τ : Tg) (i : Nat) (t me : Addr) (S : RS), vs = [.ref t] ∧ i ≠ 8 ∧ RG C τ i H t me S ∧ S.ok ∧ S.b = S.A.n ∧ 0 < S.A.n ∧ (lies S.M S.fS → ∀ τ' H', RG C τ' i H' t me S.fill → Stp τ τ' [i, 8] H H' → Q .non H') ∧ (¬ lies S.M S.fS → ∀ τ' H', RG C τ' i H' t me S → Stp τ τ' [i, 8] H H' → E (.ref F) none H')
/-- down and up -/
def RS.down (S : RS) : Option RS := if S.full then (if lies S.M S.sS then some S.spill.dn else none) else some S.dn
def RS.up (S : RS) : Option RS := if S.b = S.A.n then (if lies S.M S.fS then some S.fill.up1 else none) else some S.up1
def spRD (C F : Addr) : Sp := fun vs H Q E => ∃ (τ : Tg) (i : Nat) (t me : Addr) (S : RS), vs = [.ref t] ∧ i ≠ 8 ∧ RG C τ i H t me S ∧ S.ok ∧ S.A.n ≤ 199 ∧ (∀ S' τ' H', S.down = some S' → RG C τ' i H' t me S' → Stp τ τ' [i, 8] H H' → Q .non H') ∧ (∀ τ' H', S.down = none → RG C τ' i H' t me S → Stp τ τ' [i, 8] H H' → E (.ref F) none H')
def spRU (C F : Addr) : Sp := fun vs H Q E => ∃ (τ : Tg) (i : Nat) (t me : Addr) (S : RS), vs = [.ref t] ∧ i ≠ 8 ∧ RG C τ i H t me S ∧ S.ok ∧ 0 < S.A.n ∧ (∀ S' τ' H', S.up = some S' → RG C τ' i H' t me S' → Stp τ τ' [i, 8] H H' → Q .non H') ∧ (∀ τ' H', S.up = none → RG C τ' i H' t me S → Stp τ τ' [i, 8] H H' → E (.ref F) none H')

theorem RGx.wr {C : Addr} {τ : Tg} {i : Nat} {H : Hp} {t dx me vw ab : Addr} {ar : Nat → Addr} {S : RS} (h : RGx C τ i H t dx me vw ab ar S) (o : S.ok) {j : Nat} (hj : j < 32) (h0 : j ≠ 0) (x : Int) (i8 : i ≠ 8) :
    RGx C τ i (upd H vw (.lst ((S.A.view.set j x).map V.int))) t dx me vw ab ar (S.wr j x) := by
  have en : (S.wr j x).A.n = S.A.n := Ab.wr_n j x
  refine ⟨?_, ?_, ?_, fun k h1 h2 => ?_, ?_⟩
  · rw [en]; exact h.ob.put h.vw.2 (by simp)
  · rw [← Ab.view_wr o.a hj h0 x]; exact .set h.vw.2
  · rw [en]; exact h.ab.put h.vw.2 (by simp)
  · rw [en] at h2
    show At _ _ _ (.lst (((S.A.wr j x).L k ++ (S.A.wr j x).R k).map V.int)) _
    rw [Ab.wr_row x h2]
    exact (h.ar k h1 h2).put h.vw.2 (by simp)
  · exact h.me.put h.vw.2 (by simp [i8.symm])
section
variable {P : Program} {w : World} {K : PySem.W.Frag} {mg : Str → Option Value} {base : Heap} {a : Ad}
theorem ok_Ring_init (T : Txt w K mg a) : FnOk P w K mg base CX0 2 a.f_Ring___init__ a.d_Ring___init__ ["self", "memory", "windows"] (spRI a.C_Ring) := by
  have G_empty_view : FnOk P w K mg base CX0 1 _ _ _ _ := ok_empty_view T
  refine T.F_Ring___init__.ok sc_Ring___init__ (fun vs H Q E h => ?_) (fun cdv A outer s H vs Q E hr h => ?_)
  · obtain ⟨_, _, _, _, _, _, _, rfl, _⟩ := h; rfl
  · obtain ⟨τ, i, t, me, dx, M, W, rfl, i8, ht, hm, q⟩ := h
    have mt : (τ t).1 ∈ [i] := mem1 ht.2 rfl
    refine ⟨_, (pss_cons (ps_fld (pv 0) pe_int rfl)
      (pss_cons (ps_fld (pv 0) pe_int rfl)
      (pss_cons (ps_fld (pv 0) pe_int rfl)
      (pss_cons (ps_fld (pv 0) pe_int rfl)
      (pss_cons (ps_fld (pv 0) (pv 1) rfl)
      (pss_cons (ps_fld (pv 0) (pe_op op_sub (pv 2) pe_int) rfl)
      (pss_cons (ps_fld (pv 0) (pe_call0 G_empty_view (hr.mono (by decide)) rfl T.g_empty_view T.k_empty_view T.bd_empty_view .nil pass0) rfl)
      (pss_one (ps_fld (pv 0) (pe_lst pa_nil) rfl))))))))), ?_⟩
    refine ⟨_, rfl, t, a.C_Ring, dx, _, rfl, ht.1, T.cl_Ring, T.n_Ring_depth, (by show 0 < 1000; decide), ?_⟩
    refine ⟨_, rfl, t, a.C_Ring, dx, _, rfl, upd_same, T.cl_Ring, T.n_Ring_spills, rgf_len1 _, ?_⟩
    refine ⟨_, rfl, t, a.C_Ring, dx, _, rfl, upd_same, T.cl_Ring, T.n_Ring_fills, rgf_len2 _ _, ?_⟩
    refine ⟨_, rfl, t, a.C_Ring, dx, _, rfl, upd_same, T.cl_Ring, T.n_Ring_resident, rgf_len3 _ _ _, ?_⟩
    refine ⟨_, rfl, _, rfl, t, a.C_Ring, dx, _, rfl, upd_same, T.cl_Ring, T.n_Ring__memory, rgf_len4 _ _ _ _, ?_⟩
    refine ⟨_, rfl, _, _, rfl, rfl, _, rfl, t, a.C_Ring, dx, _, rfl, upd_same, T.cl_Ring, T.n_Ring__most, rgf_len5 _ _ _ _ _, ?_⟩
    refine ⟨rfl, fun p1 H1 n1 s1 h1 => ?_⟩
    have S1 := ((((((Stp.refl (τ := τ) (S := [i]) (H := H)).put mt).put mt).put mt).put mt).put mt).put mt |>.sameN s1 n1 (x := (i, 1, 0))
    have t1 := (S1.ag t (some_ne ht.1)).trans ht.2
    have mt1 : (tgN τ p1 (i, 1, 0) t).1 ∈ [i] := mem1 t1 rfl
    refine ⟨_, rfl, t, a.C_Ring, dx, _, rfl, s1 _ _ upd_same, T.cl_Ring, T.n_Ring__view, rgf_len6 _ _ _ _ _ _, ?_⟩
    refine ⟨by decide, fun p2 n2 => ?_⟩
    refine ⟨_, rfl, t, a.C_Ring, dx, _, rfl, (by rw [upd_ne (ne_of_none upd_same n2)]; exact upd_same), T.cl_Ring, T.n_Ring__above, rgf_len7 _ _ _ _ _ _ _, ?_⟩
    have S2 := (S1.put mt1).new n2 (o := .lst []) (x := (i, 2, 0))
    have t2 := (S2.ag t (some_ne ht.1)).trans ht.2
    have S3 := S2.put (o := .ins a.C_Ring dx (rgf 0 0 0 1 me ((W : Int) - 1) p1 p2)) (mem1 t2 rfl)
    have em : HO.ins a.C_Ring dx _ = HO.ins a.C_Ring dx _ := congrArg (fun z => HO.ins a.C_Ring dx z) (rgf_mk 0 0 0 1 me ((W : Int) - 1) p1 p2)
    rw [show (V.int 1 : V) = V.int 1 from rfl]
    refine q (tgN (tgN τ p1 (i, 1, 0)) p2 (i, 2, 0)) _ ⟨dx, p1, p2, fun _ => 0, ?_, ?_, ?_, fun k hk h2 => absurd h2 (Nat.not_lt_zero k), ?_⟩ (S2.put (mem1 t2 rfl))
    · exact ⟨by rw [upd_same]; exact congrArg (fun z => some z) em, t2⟩
    · exact (((At.in h1).put t1 (by simp)).new n2).put t2 (by simp)
    · exact At.mk.put t2 (by simp)
    · have m1 := ((((((hm.put ht.2 (by simp [i8.symm])).put ht.2 (by simp [i8.symm])).put ht.2 (by simp [i8.symm])).put ht.2 (by simp [i8.symm])).put ht.2 (by simp [i8.symm])).put ht.2 (by simp [i8.symm])).sameN s1 n1 (y := (i, 1, 0))
      exact ((m1.put t1 (by simp [i8.symm])).new n2).put t2 (by simp [i8.symm])
theorem ok_Ring_read (T : Txt w K mg a) : FnOk P w K mg base CX0 1 a.f_Ring_read a.d_Ring_read ["self", "number"] (spRR a.C_Ring) := by
  refine T.F_Ring_read.ok sc_Ring_read (fun vs H Q E h => ?_) (fun cdv A outer s H vs Q E hr h => ?_)
  · obtain ⟨_, _, _, _, _, _, rfl, _⟩ := h; rfl
  · obtain ⟨τ, i, t, me, S, j, rfl, ⟨dx, vw, ab, ar, W⟩, ho, hj, q⟩ := h
    refine ⟨_, (pss_one (ps_ret (pe_ix ix_list (pe_fld (pv 0) rfl) (pv 1) (fun _ _ => rfl)))), ?_⟩
    exact ⟨_, rfl, t, a.C_Ring, dx, _, _, rfl, W.ob.1, T.cl_Ring, T.n_Ring__view, rgf__view _ _ _ _ _ _ _ _, _, rfl, _, _, _, _, rfl, rfl, SqL.of W.vw.1, atI_nat (at_map (by rw [ho.a.view]; exact hj)), q⟩
theorem ok_Ring_write (T : Txt w K mg a) : FnOk P w K mg base CX0 1 a.f_Ring_write a.d_Ring_write ["self", "number", "word"] (spRW a.C_Ring) := by
  refine T.F_Ring_write.ok sc_Ring_write (fun vs H Q E h => ?_) (fun cdv A outer s H vs Q E hr h => ?_)
  · obtain ⟨_, _, _, _, _, _, _, rfl, _⟩ := h; rfl
  · obtain ⟨τ, i, t, me, S, j, x, rfl, i8, ⟨dx, vw, ab, ar, W⟩, ho, hj, q⟩ := h
    refine ⟨_, (pss_one (ps_if (pt_cmpR op_ne (pv 1) pe_int (nomark _)) (pss_one (ps_asg (pv 2) (pg_sub (pe_fld (pv 0) rfl) (pv 1) set_list))) pss_nil)), ?_⟩
    refine ⟨_, rfl, rfl, _, rfl, ite3 (fun e => ?_) (fun e => ?_)⟩
    · have h0 : j ≠ 0 := by intro z; subst z; simp at e
      refine ⟨_, rfl, _, rfl, t, a.C_Ring, dx, _, _, rfl, W.ob.1, T.cl_Ring, T.n_Ring__view, rgf__view _ _ _ _ _ _ _ _, _, rfl, _, _, _, _, rfl, rfl, W.vw.1, ixN_nat (by rw [List.length_map, ho.a.view]; exact hj), ?_⟩
      rw [set_int]
      exact q _ ⟨dx, vw, ab, ar, W.wr ho hj h0 x i8⟩ (Stp.refl.put (mem1 W.vw.2 rfl))
    · have h0 : j = 0 := by simpa using e
      have h1 := q H
      rw [show S.wr j x = S by unfold RS.wr; rw [show S.A.wr j x = S.A from if_pos h0]] at h1
      exact h1 ⟨dx, vw, ab, ar, W⟩ Stp.refl
theorem ok_Ring_blocked_down (T : Txt w K mg a) : FnOk P w K mg base CX0 1 a.f_Ring_blocked_down a.d_Ring_blocked_down ["self"] spRB := by
  refine T.F_Ring_blocked_down.ok sc_Ring_blocked_down (fun vs H Q E h => ?_) (fun cdv A outer s H vs Q E hr h => ?_)
  · obtain ⟨_, rfl, _⟩ := h; rfl
  · obtain ⟨x, rfl, q⟩ := h
    exact ⟨_, (pss_one (ps_ret pe_bl)), q⟩
theorem ok_Ring_blocked_up (T : Txt w K mg a) : FnOk P w K mg base CX0 1 a.f_Ring_blocked_up a.d_Ring_blocked_up ["self"] spRB := by
  refine T.F_Ring_blocked_up.ok sc_Ring_blocked_up (fun vs H Q E h => ?_) (fun cdv A outer s H vs Q E hr h => ?_)
  · obtain ⟨_, rfl, _⟩ := h; rfl
  · obtain ⟨x, rfl, q⟩ := h
    exact ⟨_, (pss_one (ps_ret pe_bl)), q⟩
theorem ok_Ring_save_area (T : Txt w K mg a) : FnOk P w K mg base (L2.CX P w) 1 a.f_Ring__save_area a.d_Ring__save_area ["self", "start"] (spRSA a.C_Ring a.C_Fault) := by
  refine T.F_Ring__save_area.okX sc_Ring__save_area (fun vs H Q E h => ?_) (fun cdv A outer s H vs Q E hr h => ?_)
  · obtain ⟨_, _, _, _, _, _, rfl, _⟩ := h; rfl
  · obtain ⟨τ, i, t, me, S, x, rfl, ⟨dx, vw, ab, ar, W⟩, q1, q2⟩ := h
    refine ⟨_, (pss_cons (ps_if (pt_not (pt_chain op_le op_le pe_int (pv 1) (pe_op op_sub (pe_callB call_len_seq (by rfl) T.b_len (by decide +kernel) (pa_cons (pe_fld (pv 0) rfl) pa_nil)) (pe_glob (v := .int (16)) rfl T.g_SAVED ⟨_, rfl⟩)))) (pss_one (ps_raise rfl (takes_of rfl rfl rfl rfl) (pmk_own PySem.F.excBase_ValueError T.x_Fault T.g_Fault T.kC_Fault (raises_own T.s1_Fault T.ty_Fault) rfl))) pss_nil)
      (pss_one (ps_ret (pv 1)))), ?_⟩
    refine ⟨_, rfl, _, _, rfl, rfl, _, rfl, ite3 (fun e1 => ?_) (fun e1 => ?_)⟩
    · have c1 : 0 ≤ x := of_decide_eq_true e1
      refine ⟨_, rfl, t, a.C_Ring, dx, _, _, rfl, W.ob.1, T.cl_Ring, T.n_Ring__memory, rgf__memory _ _ _ _ _ _ _ _, _, _, rfl, .inl (SqL.of W.me.1), _, _, rfl, rfl, _, _, rfl, rfl, _, rfl, ite3 (fun e2 => ?_) (fun e2 => ?_)⟩
      · refine q2 fun l => ?_
        have c2 : decide (x ≤ ((S.M.map V.int).length : Int) - 16) = false := by simpa using e2
        have c2 := of_decide_eq_false c2
        rw [List.length_map] at c2
        have := l.2
        omega
      · have c2 : decide (x ≤ ((S.M.map V.int).length : Int) - 16) = true := by simpa using e2
        have c2 := of_decide_eq_true c2
        rw [List.length_map] at c2
        exact ⟨_, rfl, q1 ⟨c1, by omega⟩⟩
    · have c1 : ¬ 0 ≤ x := of_decide_eq_false e1
      exact ⟨_, rfl, iteT (q2 fun l => c1 l.1)⟩
end

theorem getR {xs ys : List Int} {n j : Nat} (e : xs.length = n) (h : n ≤ j) : (xs ++ ys).getD j 0 = ys.getD (j - n) 0 := by
  rw [List.getD_eq_getElem?_getD, List.getD_eq_getElem?_getD, List.getElem?_append_right (by rw [e]; exact h), e]
theorem RS.fill_view {S : RS} (hb : S.b = S.A.n) (hn : 0 < S.A.n) : S.fill.A.view = S.A.view := by
  show S.A.G ++ (upF S.A.R (S.b - 1) _ (S.A.n + 1) ++ (upF S.A.L (S.b - 1) _ S.A.n ++ upF S.A.R (S.b - 1) _ S.A.n)) = _
  rw [upF_ne (by omega), upF_ne (by omega), upF_ne (by omega)]
  rfl
theorem half (M : List Int) (m : Nat) : (M.drop m).take 16 = (M.drop m).take 8 ++ (M.drop (m + 8)).take 8 := by
  rw [show 16 = 8 + 8 from rfl, List.take_add, List.drop_drop]
theorem rng_tail {f : Nat → V} {n : Nat} : ((List.range (n + 1)).map f).eraseIdx 0 = (List.range n).map fun k => f (k + 1) := by
  rw [List.range_succ_eq_map]
  simp [List.map_map, Function.comp_def]
section
variable {P : Program} {w : World} {K : PySem.W.Frag} {mg : Str → Option Value} {base : Heap} {a : Ad}
theorem ok_Ring_spill (T : Txt w K mg a) : FnOk P w K mg base (L2.CX P w) 2 a.f_Ring__spill a.d_Ring__spill ["self"] (spRSp a.C_Ring a.C_Fault) := by
  have G_locals_and_ins : FnOk P w K mg base CX0 1 _ _ _ _ := ok_locals_and_ins T
  have G_Ring__save_area : FnOk P w K mg base (L2.CX P w) 1 _ _ _ _ := ok_Ring_save_area T
  refine T.F_Ring__spill.okX sc_Ring__spill (fun vs H Q E h => ?_) (fun cdv A outer s H vs Q E hr h => ?_)
  · obtain ⟨_, _, _, _, _, rfl, _⟩ := h; rfl
  · obtain ⟨τ, i, t, me, S, rfl, i8, ⟨dx, vw, ab, ar, W⟩, ho, hf, q1, q2⟩ := h
    refine ⟨_, (C8.pss_cut (ps_set (i := 1) sc_Ring__spill.nd rfl (Or.inl rfl) (pe_ifExp (pt_cmpR op_gt (pe_fld (pv 0) rfl) pe_int (nomark _)) (pe_ix ix_list (pe_fld (pv 0) rfl) pe_int (fun _ _ => rfl)) (pe_call G_locals_and_ins (hr.mono (by decide)) rfl T.g_locals_and_ins T.k_locals_and_ins T.bd_locals_and_ins .nil pass0 (pa_cons (pe_fld (pv 0) rfl) pa_nil))))
      (C8.pss_cut (ps_set (i := 2) sc_Ring__spill.nd rfl (Or.inl rfl) (pe_meth (pv 0) T.cl_Ring T.m_Ring__save_area G_Ring__save_area (hr.mono (by decide)) T.bd_Ring__save_area .nil (passes_call (takes_of rfl rfl rfl rfl) fun _ _ _ _ z => z) (pa_cons (pe_ix ix_list (pv 1) (pe_glob (v := .int (14)) rfl T.g_POINTER ⟨_, rfl⟩) (fun _ _ => rfl)) pa_nil)))
      (C8.pss_cut (ps_asg (pe_bm PySem.F.plainAttrs_list PySem.F.slot_list_pop PySem.F.type_list_pop mt_popAt (pe_fld (pv 0) rfl) (pa_cons pe_int pa_nil)) (pg_slc (pe_fld (pv 0) rfl) (po_some (pv 2)) (po_some (pe_op op_add (pv 2) (pe_glob (v := .int (16)) rfl T.g_SAVED ⟨_, rfl⟩)))))
      (pss_cons (ps_fldaug (pv 0) pe_int in_add)
      (pss_one (ps_fldaug (pv 0) pe_int in_sub)))))), ?_⟩
    have hw3 := ho.w3
    have hfu : S.A.n + 2 = S.b + S.W := hf
    refine ⟨fun σ H' => ∃ bl, Same H H' ∧ H' bl = some (.lst ((S.A.L (S.b + 1) ++ S.A.R (S.b + 1)).map V.int)) ∧ σ = [some (.ref t), some (.ref bl), none], ?_, ?_⟩
    · refine ⟨_, rfl, t, a.C_Ring, dx, _, _, rfl, W.ob.1, T.cl_Ring, T.n_Ring_resident, rgf_resident _ _ _ _ _ _ _ _, _, _, rfl, rfl, _, rfl, ite3 (fun e => ?_) (fun e => ?_)⟩
      · have e := of_decide_eq_true e
        have h2 : S.b + 1 < S.A.n := by omega
        exact ⟨_, rfl, t, a.C_Ring, dx, _, _, rfl, W.ob.1, T.cl_Ring, T.n_Ring__above, rgf__above _ _ _ _ _ _ _ _, _, _, _, _, rfl, rfl, SqL.of W.ab.1, atI_nat (j := 1) (rng_at (by omega)), ar (S.b + 1), Same.refl _, (W.ar _ (by omega) h2).1, rfl⟩
      · have e := of_decide_eq_false e
        have h2 : S.b + 1 = S.A.n := by omega
        refine ⟨_, rfl, t, a.C_Ring, dx, _, _, rfl, W.ob.1, T.cl_Ring, T.n_Ring__view, rgf__view _ _ _ _ _ _ _ _, vw, _, rfl, W.vw.1, fun p np => ⟨p, sN (Same.refl _) np, ?_, rfl⟩⟩
        rw [upd_same, h2, Ab.view_ins ho.a]
    rintro σ H1 ⟨bl, s1, hbl, rfl⟩
    have W1 : RGx a.C_Ring τ i H1 t dx me vw ab ar S := ⟨W.ob.same s1, W.vw.same s1, W.ab.same s1, fun k h1 h2 => (W.ar k h1 h2).same s1, W.me.same s1⟩
    have F1 : Stp τ τ [i, 8] H H1 := Stp.same s1
    have a14 : atI ((S.A.L (S.b + 1) ++ S.A.R (S.b + 1)).map V.int) 14 = some (.int S.sS) := by
      have := atI_nat (at_map (ys := S.A.L (S.b + 1) ++ S.A.R (S.b + 1)) (j := 14) (by rw [List.length_append, ho.a.l, ho.a.r]; decide))
      rw [getR (ho.a.l _) (by decide)] at this
      exact this
    clear W s1
    refine ⟨fun σ H' => H1 = H' ∧ lies S.M S.sS ∧ σ = [some (.ref t), some (.ref bl), some (.int S.sS)], ⟨_, rfl, t, dx, _, rfl, W1.ob.1, rgf_no__save_area _ _ _ _ _ _ _ _, _, rfl, _, _, _, _, rfl, rfl, SqL.of hbl, a14, τ, i, t, me, S, S.sS, rfl, ⟨dx, vw, ab, ar, W1⟩, fun l => ⟨rfl, l, rfl⟩, fun l => q2 l τ H1 ⟨dx, vw, ab, ar, W1⟩ F1⟩, ?_⟩
    rintro σ H' ⟨e0, l, rfl⟩
    subst e0
    have q1 := q1 l
    have esp : S.spill.M = S.M.take S.sS.toNat ++ (S.A.L S.b ++ S.A.R S.b) ++ S.M.drop (S.sS.toNat + 16) := rfl
    have hM := ho.m
    obtain ⟨l1, l2⟩ := l
    obtain ⟨m, hm⟩ : ∃ m : Nat, S.sS = (m : Int) := ⟨S.sS.toNat, by omega⟩
    obtain ⟨n, hn⟩ : ∃ n, S.A.n - S.b = n + 1 := ⟨S.A.n - S.b - 1, by omega⟩
    have Wab := W1.ab
    have len16 : ((S.A.L S.b ++ S.A.R S.b).map V.int).length = 16 := by rw [List.length_map, List.length_append, ho.a.l, ho.a.r]
    rw [hn] at Wab
    rw [hm] at esp l2 ⊢
    rw [Int.toNat_natCast] at esp
    refine ⟨fun σ H' => Stp τ τ [i, 8] H H' ∧ At τ H' t (.ins a.C_Ring dx (rgf S.A.n S.sp S.fi ((S.A.n : Int) + 1 - (S.b : Int)) me ((S.W : Int) - 1) vw ab)) (i, 0, 0) ∧ At τ H' vw (.lst (S.A.view.map V.int)) (i, 1, 0) ∧ At τ H' ab (.lst ((List.range n).map fun k => V.ref (ar (S.b + (k + 1))))) (i, 2, 0) ∧ (∀ k, S.b + 1 ≤ k → k < S.A.n → At τ H' (ar k) (.lst ((S.A.L k ++ S.A.R k).map V.int)) (i, 3, k)) ∧ At τ H' me (.lst (S.spill.M.map V.int)) (8, 0, 0) ∧ ∃ x, σ = [some (.ref t), some (.ref bl), x], ?_, ?_⟩
    · refine ⟨_, rfl, t, a.C_Ring, dx, _, _, rfl, W1.ob.1, T.cl_Ring, T.n_Ring__above, rgf__above _ _ _ _ _ _ _ _, .inl ⟨rfl, _, SqL.of Wab.1⟩, ab, _, 0, 0, _, rfl, rfl, Wab.1, by decide, by decide, PyProof.Rows.seqIndex?_zero (by rw [rng_len]; omega), (show _ = some (V.ref (ar S.b)) from rng_at (by omega)), ?_⟩
      rw [rng_tail]
      have c1 := W1.ob.put Wab.2 (u := .lst ((List.range n).map fun k => V.ref (ar (S.b + (k + 1))))) (by simp)
      have c2 := W1.vw.put Wab.2 (u := .lst ((List.range n).map fun k => V.ref (ar (S.b + (k + 1))))) (by simp)
      have c4 := fun k h1 h2 => (W1.ar k h1 h2).put Wab.2 (u := .lst ((List.range n).map fun k => V.ref (ar (S.b + (k + 1))))) (by simp)
      have c3 : At _ _ ab _ _ := At.set (H := H1) (o := .lst ((List.range n).map fun k => V.ref (ar (S.b + (k + 1))))) Wab.2
      have c5 := W1.me.put Wab.2 (u := .lst ((List.range n).map fun k => V.ref (ar (S.b + (k + 1))))) (by simp [i8.symm])
      have F2 := F1.put (o := .lst ((List.range n).map fun k => V.ref (ar (S.b + (k + 1))))) (by rw [Wab.2]; simp)
      have hb0 := c4 S.b (by omega) (by omega)
      refine ⟨_, rfl, t, a.C_Ring, dx, _, _, rfl, c1.1, T.cl_Ring, T.n_Ring__memory, rgf__memory _ _ _ _ _ _ _ _, _, rfl, _, rfl, _, rfl, _, _, rfl, rfl, _, rfl, me, ar S.b, _, _, m, m + 16, rfl, rfl, c5.1, hb0.1, ne_tag c5.2 hb0.2 (by simp [i8.symm]), by omega, by rw [List.length_map]; omega, ?_, ?_, ?_⟩
      · exact bounds_run (a := m) (c := m + 16) (by omega) (by rw [List.length_map]; omega)
      · rw [len16, List.length_map]
        have := sizeLine_eq
        omega
      · rw [← List.map_take, ← List.map_drop, ← List.map_append, ← List.map_append, ← esp]
        refine ⟨F2.put (by rw [c5.2]; simp), c1.put c5.2 (by simp [i8]), c2.put c5.2 (by simp [i8]), c3.put c5.2 (by simp [i8]), fun k h1 h2 => (c4 k (by omega) h2).put c5.2 (by simp [i8]), .set c5.2, _, rfl⟩
    clear Wab a14 hbl F1 W1
    rintro σ H2 ⟨F2, c1, c2, c3, c4, c5, x, rfl⟩
    refine ⟨_, rfl, t, a.C_Ring, dx, _, _, rfl, c1.1, T.cl_Ring, T.n_Ring_spills, rgf_spills _ _ _ _ _ _ _ _, _, _, rfl, rfl, dx, _, c1.1, (by show 8 < 1000; decide), ?_⟩
    rw [rgf_put_spills]
    refine ⟨_, rfl, t, a.C_Ring, dx, _, _, rfl, upd_same, T.cl_Ring, T.n_Ring_resident, rgf_resident _ _ _ _ _ _ _ _, _, _, rfl, rfl, dx, _, upd_same, (by show 8 < 1000; decide), ?_⟩
    rw [rgf_put_resident]
    have mt : (τ t).1 ∈ [i, 8] := by rw [c1.2]; simp
    refine q1 τ _ ⟨dx, vw, ab, ar, ?_, ?_, ?_, fun k h1 h2 => ?_, ?_⟩ ((F2.put mt).put mt)
    · show At _ _ _ (.ins _ dx (rgf (S.A.n : Int) (S.sp + 1) S.fi ((S.A.n : Int) + 1 - ((S.b + 1 : Nat) : Int)) me ((S.W : Int) - 1) vw ab)) _
      rw [show (S.A.n : Int) + 1 - ((S.b + 1 : Nat) : Int) = (S.A.n : Int) + 1 - (S.b : Int) - 1 by omega]
      exact .set c1.2
    · exact (c2.put c1.2 (by simp)).put c1.2 (by simp)
    · show At _ _ _ (.lst ((List.range (S.A.n - (S.b + 1))).map fun k => V.ref (ar (S.b + 1 + k)))) _
      rw [show S.A.n - (S.b + 1) = n by omega, rng_up (g := fun k => V.ref (ar (S.b + (k + 1)))) (fun k _ => by rw [show S.b + 1 + k = S.b + (k + 1) by omega])]
      exact (c3.put c1.2 (by simp)).put c1.2 (by simp)
    · exact ((c4 k h1 h2).put c1.2 (by simp)).put c1.2 (by simp)
    · exact (c5.put c1.2 (by simp [i8.symm])).put c1.2 (by simp [i8.symm])
theorem ok_Ring_fill (T : Txt w K mg a) : FnOk P w K mg base (L2.CX P w) 2 a.f_Ring__fill a.d_Ring__fill ["self"] (spRF a.C_Ring a.C_Fault) := by
  have G_locals_and_ins : FnOk P w K mg base CX0 1 _ _ _ _ := ok_locals_and_ins T
  have G_Ring__save_area : FnOk P w K mg base (L2.CX P w) 1 _ _ _ _ := ok_Ring_save_area T
  refine T.F_Ring__fill.okX sc_Ring__fill (fun vs H Q E h => ?_) (fun cdv A outer s H vs Q E hr h => ?_)
  · obtain ⟨_, _, _, _, _, rfl, _⟩ := h; rfl
  · obtain ⟨τ, i, t, me, S, rfl, i8, ⟨dx, vw, ab, ar, W⟩, ho, hb, hn, q1, q2⟩ := h
    refine ⟨_, (C8.pss_cut (ps_set (i := 1) sc_Ring__fill.nd rfl (Or.inl rfl) (pe_meth (pv 0) T.cl_Ring T.m_Ring__save_area G_Ring__save_area (hr.mono (by decide)) T.bd_Ring__save_area .nil (passes_call (takes_of rfl rfl rfl rfl) fun _ _ _ _ z => z) (pa_cons (pe_ix ix_list (pe_call G_locals_and_ins (hr.mono (by decide)) rfl T.g_locals_and_ins T.k_locals_and_ins T.bd_locals_and_ins .nil pass0 (pa_cons (pe_fld (pv 0) rfl) pa_nil)) (pe_glob (v := .int (14)) rfl T.g_POINTER ⟨_, rfl⟩) (fun _ _ => rfl)) pa_nil)))
      (C8.pss_cut (ps_expr (pe_bm PySem.F.plainAttrs_list PySem.F.slot_list_append PySem.F.type_list_append mt_append (pe_fld (pv 0) rfl) (pa_cons (pe_slice sl_list (pe_fld (pv 0) rfl) (po_some (pv 1)) (po_some (pe_op op_add (pv 1) (pe_glob (v := .int (16)) rfl T.g_SAVED ⟨_, rfl⟩)))) pa_nil)))
      (pss_cons (ps_fldaug (pv 0) pe_int in_add)
      (pss_one (ps_fldaug (pv 0) pe_int in_add))))), ?_⟩
    have a14 : atI ((S.A.view.drop 16).map V.int) 14 = some (.int S.fS) := by
      rw [Ab.view_ins ho.a]
      have := atI_nat (at_map (ys := S.A.L S.A.n ++ S.A.R S.A.n) (j := 14) (by rw [List.length_append, ho.a.l, ho.a.r]; decide))
      rw [getR (ho.a.l _) (by decide)] at this
      exact this
    refine ⟨fun σ H' => Same H H' ∧ lies S.M S.fS ∧ σ = [some (.ref t), some (.int S.fS)], ?_, ?_⟩
    · refine ⟨_, rfl, t, dx, _, rfl, W.ob.1, rgf_no__save_area _ _ _ _ _ _ _ _, _, rfl, t, a.C_Ring, dx, _, _, rfl, W.ob.1, T.cl_Ring, T.n_Ring__view, rgf__view _ _ _ _ _ _ _ _, vw, _, rfl, W.vw.1, fun p np => ?_⟩
      have s1 := sN (Same.refl H) np (o := .lst ((S.A.view.drop 16).map V.int))
      have W1 : RGx a.C_Ring τ i (upd H p (.lst ((S.A.view.drop 16).map V.int))) t dx me vw ab ar S := ⟨W.ob.same s1, W.vw.same s1, W.ab.same s1, fun k h1 h2 => (W.ar k h1 h2).same s1, W.me.same s1⟩
      exact ⟨_, _, _, _, rfl, rfl, SqL.of upd_same, a14, τ, i, t, me, S, S.fS, rfl, ⟨dx, vw, ab, ar, W1⟩, fun l => ⟨s1, l, rfl⟩, fun l => q2 l τ _ ⟨dx, vw, ab, ar, W1⟩ (Stp.same s1)⟩
    rintro σ H1 ⟨s1, l, rfl⟩
    have W1 : RGx a.C_Ring τ i H1 t dx me vw ab ar S := ⟨W.ob.same s1, W.vw.same s1, W.ab.same s1, fun k h1 h2 => (W.ar k h1 h2).same s1, W.me.same s1⟩
    have F1 : Stp τ τ [i, 8] H H1 := Stp.same s1
    clear W s1
    have q1 := q1 l
    have hM := ho.m
    obtain ⟨l1, l2⟩ := l
    have eL : S.fill.A.L (S.b - 1) ++ S.fill.A.R (S.b - 1) = (S.M.drop S.fS.toNat).take 16 := by
      show upF S.A.L (S.b - 1) _ (S.b - 1) ++ upF S.A.R (S.b - 1) _ (S.b - 1) = _
      rw [upF_same, upF_same, half]
    obtain ⟨m, hm⟩ : ∃ m : Nat, S.fS = (m : Int) := ⟨S.fS.toNat, by omega⟩
    rw [hm] at eL l2 ⊢
    rw [Int.toNat_natCast] at eL
    have Wab := W1.ab
    rw [show S.A.n - S.b = 0 by omega] at Wab
    refine ⟨fun σ H' => ∃ p, Stp τ (tgN τ p (i, 3, S.b - 1)) [i, 8] H H' ∧ At (tgN τ p (i, 3, S.b - 1)) H' t (.ins a.C_Ring dx (rgf S.A.n S.sp S.fi ((S.A.n : Int) + 1 - (S.b : Int)) me ((S.W : Int) - 1) vw ab)) (i, 0, 0) ∧ At (tgN τ p (i, 3, S.b - 1)) H' vw (.lst (S.A.view.map V.int)) (i, 1, 0) ∧ At (tgN τ p (i, 3, S.b - 1)) H' ab (.lst [.ref p]) (i, 2, 0) ∧ At (tgN τ p (i, 3, S.b - 1)) H' p (.lst ((S.fill.A.L (S.b - 1) ++ S.fill.A.R (S.b - 1)).map V.int)) (i, 3, S.b - 1) ∧ At (tgN τ p (i, 3, S.b - 1)) H' me (.lst (S.M.map V.int)) (8, 0, 0) ∧ ∃ x, σ = [some (.ref t), x], ?_, ?_⟩
    · refine ⟨_, rfl, t, a.C_Ring, dx, _, _, rfl, W1.ob.1, T.cl_Ring, T.n_Ring__above, rgf__above _ _ _ _ _ _ _ _, .inl ⟨rfl, _, SqL.of Wab.1⟩, _, rfl, t, a.C_Ring, dx, _, _, rfl, W1.ob.1, T.cl_Ring, T.n_Ring__memory, rgf__memory _ _ _ _ _ _ _ _, _, rfl, _, rfl, _, rfl, _, _, rfl, rfl, _, rfl, me, _, rfl, SqL.of W1.me.1, fun p np => ?_⟩
      have ec : cutV (S.M.map V.int) (some (m : Int)) (some ((m : Int) + 16)) = (S.fill.A.L (S.b - 1) ++ S.fill.A.R (S.b - 1)).map V.int := by
        rw [eL, show ((m : Int) + 16) = ((m + 16 : Nat) : Int) from rfl, cut_mid _ _ _ (by omega) (by rw [List.length_map]; omega), List.map_take, List.map_drop, show m + 16 - m = 16 by omega]
      rw [ec]
      have b1 := W1.ob.new np (u := .lst ((S.fill.A.L (S.b - 1) ++ S.fill.A.R (S.b - 1)).map V.int)) (y := (i, 3, S.b - 1))
      have b2 := W1.vw.new np (u := .lst ((S.fill.A.L (S.b - 1) ++ S.fill.A.R (S.b - 1)).map V.int)) (y := (i, 3, S.b - 1))
      have b3 := Wab.new np (u := .lst ((S.fill.A.L (S.b - 1) ++ S.fill.A.R (S.b - 1)).map V.int)) (y := (i, 3, S.b - 1))
      have b5 := W1.me.new np (u := .lst ((S.fill.A.L (S.b - 1) ++ S.fill.A.R (S.b - 1)).map V.int)) (y := (i, 3, S.b - 1))
      have bp : At (tgN τ p (i, 3, S.b - 1)) (upd H1 p (.lst ((S.fill.A.L (S.b - 1) ++ S.fill.A.R (S.b - 1)).map V.int))) p _ _ := At.mk
      have F2 := F1.new np (o := .lst ((S.fill.A.L (S.b - 1) ++ S.fill.A.R (S.b - 1)).map V.int)) (x := (i, 3, S.b - 1))
      refine ⟨ab, _, _, rfl, rfl, b3.1, sz (by rw [rng_len]; decide), p, F2.put (by rw [b3.2]; simp), b1.put b3.2 (by simp), b2.put b3.2 (by simp), .set b3.2, bp.put b3.2 (by simp), b5.put b3.2 (by simp [i8.symm]), _, rfl⟩
    clear Wab a14 F1 W1
    rintro σ H2 ⟨p, F2, c1, c2, c3, c4, c5, x, rfl⟩
    refine ⟨_, rfl, t, a.C_Ring, dx, _, _, rfl, c1.1, T.cl_Ring, T.n_Ring_fills, rgf_fills _ _ _ _ _ _ _ _, _, _, rfl, rfl, dx, _, c1.1, (by show 8 < 1000; decide), ?_⟩
    rw [rgf_put_fills]
    refine ⟨_, rfl, t, a.C_Ring, dx, _, _, rfl, upd_same, T.cl_Ring, T.n_Ring_resident, rgf_resident _ _ _ _ _ _ _ _, _, _, rfl, rfl, dx, _, upd_same, (by show 8 < 1000; decide), ?_⟩
    rw [rgf_put_resident]
    have mt : (tgN τ p (i, 3, S.b - 1) t).1 ∈ [i, 8] := by rw [c1.2]; simp
    refine q1 _ _ ⟨dx, vw, ab, fun _ => p, ?_, ?_, ?_, fun k h1 h2 => ?_, ?_⟩ ((F2.put mt).put mt)
    · show At _ _ _ (.ins _ dx (rgf (S.A.n : Int) S.sp (S.fi + 1) ((S.A.n : Int) + 1 - ((S.b - 1 : Nat) : Int)) me ((S.W : Int) - 1) vw ab)) _
      rw [show (S.A.n : Int) + 1 - ((S.b - 1 : Nat) : Int) = (S.A.n : Int) + 1 - (S.b : Int) + 1 by omega]
      exact .set c1.2
    · rw [RS.fill_view hb hn]
      exact (c2.put c1.2 (by simp)).put c1.2 (by simp)
    · show At _ _ _ (.lst ((List.range (S.A.n - (S.b - 1))).map fun _ => V.ref p)) _
      rw [show S.A.n - (S.b - 1) = 1 by omega]
      exact (c3.put c1.2 (by simp)).put c1.2 (by simp)
    · have h1 : S.b - 1 ≤ k := h1
      have h2 : k < S.A.n := h2
      obtain rfl : k = S.b - 1 := by omega
      exact (c4.put c1.2 (by simp)).put c1.2 (by simp)
    · exact (c5.put c1.2 (by simp [i8.symm])).put c1.2 (by simp [i8.symm])
end

theorem RS.down_full {S : RS} (f : S.full) (l : lies S.M S.sS) : S.down = some S.spill.dn := by unfold RS.down; rw [if_pos f, if_pos l]
theorem RS.down_none {S : RS} (f : S.full) (l : ¬ lies S.M S.sS) : S.down = none := by unfold RS.down; rw [if_pos f, if_neg l]
theorem RS.down_free {S : RS} (f : ¬ S.full) : S.down = some S.dn := by unfold RS.down; rw [if_neg f]
theorem RS.up_low {S : RS} (f : S.b = S.A.n) (l : lies S.M S.fS) : S.up = some S.fill.up1 := by unfold RS.up; rw [if_pos f, if_pos l]
theorem RS.up_none {S : RS} (f : S.b = S.A.n) (l : ¬ lies S.M S.fS) : S.up = none := by unfold RS.up; rw [if_pos f, if_neg l]
theorem RS.up_free {S : RS} (f : ¬ S.b = S.A.n) : S.up = some S.up1 := by unfold RS.up; rw [if_neg f]
section
variable {P : Program} {w : World} {K : PySem.W.Frag} {mg : Str → Option Value} {base : Heap} {a : Ad}
theorem ok_Ring_shift_down (T : Txt w K mg a) : FnOk P w K mg base (L2.CX P w) 3 a.f_Ring_shift_down a.d_Ring_shift_down ["self"] (spRD a.C_Ring a.C_Fault) := by
  have G_locals_and_ins : FnOk P w K mg base CX0 1 _ _ _ _ := ok_locals_and_ins T
  have G_view_below : FnOk P w K mg base CX0 1 _ _ _ _ := ok_view_below T
  have G_Ring__spill : FnOk P w K mg base (L2.CX P w) 2 _ _ _ _ := ok_Ring_spill T
  refine T.F_Ring_shift_down.okX sc_Ring_shift_down (fun vs H Q E h => ?_) (fun cdv A outer s H vs Q E hr h => ?_)
  · obtain ⟨_, _, _, _, _, rfl, _⟩ := h; rfl
  · obtain ⟨τ, i, t, me, S0, rfl, i8, W0, ho0, hn0, q1, q2⟩ := h
    refine ⟨_, (C8.pss_cut (ps_if (pt_cmpR op_eq (pe_fld (pv 0) rfl) (pe_fld (pv 0) rfl) (nomark _)) (pss_one (ps_expr (pe_meth0 (pv 0) T.cl_Ring T.m_Ring__spill G_Ring__spill (hr.mono (by decide)) T.bd_Ring__spill .nil (passes_call (takes_of rfl rfl rfl rfl) fun _ _ _ _ z => z)))) pss_nil)
      (pss_cons (ps_expr (pe_bm PySem.F.plainAttrs_list PySem.F.slot_list_append PySem.F.type_list_append mt_append (pe_fld (pv 0) rfl) (pa_cons (pe_call G_locals_and_ins (hr.mono (by decide)) rfl T.g_locals_and_ins T.k_locals_and_ins T.bd_locals_and_ins .nil pass0 (pa_cons (pe_fld (pv 0) rfl) pa_nil)) pa_nil)))
      (pss_cons (ps_fld (pv 0) (pe_call G_view_below (hr.mono (by decide)) rfl T.g_view_below T.k_view_below T.bd_view_below .nil pass0 (pa_cons (pe_fld (pv 0) rfl) pa_nil)) rfl)
      (pss_cons (ps_fldaug (pv 0) pe_int in_add)
      (pss_one (ps_fldaug (pv 0) pe_int in_add)))))), ?_⟩
    refine ⟨fun σ H' => ∃ S τ', RG a.C_Ring τ' i H' t me S ∧ Stp τ τ' [i, 8] H H' ∧ S.ok ∧ ¬ S.full ∧ S.A.n ≤ 199 ∧ S0.down = some S.dn ∧ σ = [some (.ref t)], ?_, ?_⟩
    · have W0' := W0
      obtain ⟨dx, vw, ab, ar, W⟩ := W0'
      refine ⟨_, rfl, t, a.C_Ring, dx, _, _, rfl, W.ob.1, T.cl_Ring, T.n_Ring_resident, rgf_resident _ _ _ _ _ _ _ _, _, rfl, t, a.C_Ring, dx, _, _, rfl, W.ob.1, T.cl_Ring, T.n_Ring__most, rgf__most _ _ _ _ _ _ _ _, rfl, _, rfl, ite3 (fun e => ?_) (fun e => ?_)⟩
      · have f : S0.full := by
          have e := of_decide_eq_true e
          have e : (S0.A.n : Int) + 1 - (S0.b : Int) = (S0.W : Int) - 1 := by injection e
          show S0.A.n + 2 = S0.b + S0.W
          omega
        exact ⟨_, rfl, t, dx, _, rfl, W.ob.1, rgf_no__spill _ _ _ _ _ _ _ _, τ, i, t, me, S0, rfl, i8, W0, ho0, f, fun l τ' H' W' F' => ⟨S0.spill, τ', W', F', (ho0.spill f l).1, (ho0.spill f l).2.1, hn0, RS.down_full f l, rfl⟩, fun l τ' H' W' F' => q2 τ' H' (RS.down_none f l) W' F'⟩
      · have f : ¬ S0.full := fun f => by
          have f : S0.A.n + 2 = S0.b + S0.W := f
          exact of_decide_eq_false e (by rw [show (S0.A.n : Int) + 1 - (S0.b : Int) = (S0.W : Int) - 1 by omega])
        exact ⟨S0, τ, W0, Stp.refl, ho0, f, hn0, RS.down_free f, rfl⟩
    clear W0
    rintro σ H0 ⟨S, τ0, ⟨dx, vw, ab, ar, W⟩, F0, ho, hf, hn, ed, rfl⟩
    have q := fun τ' H' => q1 S.dn τ' H' ed
    have hb := ho.b
    refine ⟨_, rfl, t, a.C_Ring, dx, _, _, rfl, W.ob.1, T.cl_Ring, T.n_Ring__above, rgf__above _ _ _ _ _ _ _ _, .inl ⟨rfl, _, SqL.of W.ab.1⟩, ?_⟩
    refine ⟨_, rfl, t, a.C_Ring, dx, _, _, rfl, W.ob.1, T.cl_Ring, T.n_Ring__view, rgf__view _ _ _ _ _ _ _ _, vw, _, rfl, W.vw.1, fun p np => ?_⟩
    have b1 := W.ob.new np (u := .lst ((S.A.view.drop 16).map V.int)) (y := (i, 3, S.A.n))
    have b2 := W.vw.new np (u := .lst ((S.A.view.drop 16).map V.int)) (y := (i, 3, S.A.n))
    have b3 := W.ab.new np (u := .lst ((S.A.view.drop 16).map V.int)) (y := (i, 3, S.A.n))
    have b4 := fun k h1 h2 => (W.ar k h1 h2).new np (u := .lst ((S.A.view.drop 16).map V.int)) (y := (i, 3, S.A.n))
    have b5 := W.me.new np (u := .lst ((S.A.view.drop 16).map V.int)) (y := (i, 3, S.A.n))
    have bp : At (tgN τ0 p (i, 3, S.A.n)) (upd H0 p (.lst ((S.A.view.drop 16).map V.int))) p _ _ := At.mk
    have S1 := F0.new np (o := .lst ((S.A.view.drop 16).map V.int)) (x := (i, 3, S.A.n))
    refine ⟨ab, _, _, rfl, rfl, b3.1, sz (by rw [rng_len]; omega), ?_⟩
    have eapp : ((List.range (S.A.n - S.b)).map fun k => V.ref (ar (S.b + k))) ++ [V.ref p] = (List.range (S.A.n + 1 - S.b)).map fun k => V.ref (upA ar S.A.n p (S.b + k)) := by
      rw [rng_app (f := fun k => ar (S.b + k)), show S.A.n + 1 - S.b = S.A.n - S.b + 1 by omega]
      refine rng_up fun k hk => ?_
      by_cases c : k = S.A.n - S.b
      · rw [c, upA_same, show S.b + (S.A.n - S.b) = S.A.n by omega, upA_same]
      · rw [upA_ne c, upA_ne (by omega)]
    rw [eapp]
    have c1 := b1.put b3.2 (u := .lst ((List.range (S.A.n + 1 - S.b)).map fun k => V.ref (upA ar S.A.n p (S.b + k)))) (by simp)
    have c2 := b2.put b3.2 (u := .lst ((List.range (S.A.n + 1 - S.b)).map fun k => V.ref (upA ar S.A.n p (S.b + k)))) (by simp)
    have c4 := fun k h1 h2 => (b4 k h1 h2).put b3.2 (u := .lst ((List.range (S.A.n + 1 - S.b)).map fun k => V.ref (upA ar S.A.n p (S.b + k)))) (by simp)
    have c5 := b5.put b3.2 (u := .lst ((List.range (S.A.n + 1 - S.b)).map fun k => V.ref (upA ar S.A.n p (S.b + k)))) (by simp [i8.symm])
    have cp := bp.put b3.2 (u := .lst ((List.range (S.A.n + 1 - S.b)).map fun k => V.ref (upA ar S.A.n p (S.b + k)))) (by simp)
    have c3 : At _ _ ab _ _ := At.set (H := upd H0 p (.lst ((S.A.view.drop 16).map V.int))) (o := .lst ((List.range (S.A.n + 1 - S.b)).map fun k => V.ref (upA ar S.A.n p (S.b + k)))) b3.2
    have S2 := S1.put (o := .lst ((List.range (S.A.n + 1 - S.b)).map fun k => V.ref (upA ar S.A.n p (S.b + k)))) (by rw [b3.2]; simp)
    clear b1 b2 b4 b5 bp S1
    refine ⟨_, rfl, t, a.C_Ring, dx, _, _, rfl, c1.1, T.cl_Ring, T.n_Ring__view, rgf__view _ _ _ _ _ _ _ _, vw, _, rfl, c2.1, ho.a.view, fun v H2 nv s2 hv => ?_⟩
    have d1 := c1.sameN s2 nv (y := (i, 1, 0))
    have d3 := c3.sameN s2 nv (y := (i, 1, 0))
    have d4 := fun k h1 h2 => (c4 k h1 h2).sameN s2 nv (y := (i, 1, 0))
    have d5 := c5.sameN s2 nv (y := (i, 1, 0))
    have dp := cp.sameN s2 nv (y := (i, 1, 0))
    have dv := At.in (τ := tgN τ0 p (i, 3, S.A.n)) (x := (i, 1, 0)) hv
    have S3 := S2.sameN s2 nv (x := (i, 1, 0))
    refine ⟨_, rfl, t, a.C_Ring, dx, _, rfl, d1.1, T.cl_Ring, T.n_Ring__view, (by show 8 < 1000; decide), ?_⟩
    rw [rgf_put__view]
    refine ⟨_, rfl, t, a.C_Ring, dx, _, _, rfl, upd_same, T.cl_Ring, T.n_Ring_depth, rgf_depth _ _ _ _ _ _ _ _, _, _, rfl, rfl, dx, _, upd_same, (by show 8 < 1000; decide), ?_⟩
    rw [rgf_put_depth]
    refine ⟨_, rfl, t, a.C_Ring, dx, _, _, rfl, upd_same, T.cl_Ring, T.n_Ring_resident, rgf_resident _ _ _ _ _ _ _ _, _, _, rfl, rfl, dx, _, upd_same, (by show 8 < 1000; decide), ?_⟩
    rw [rgf_put_resident]
    have mt : (tgN (tgN τ0 p (i, 3, S.A.n)) v (i, 1, 0) t).1 ∈ [i, 8] := by rw [d1.2]; simp
    refine q _ _ ⟨dx, v, ab, upA ar S.A.n p, ?_, ?_, ?_, fun k h1 h2 => ?_, ?_⟩ (((S3.put mt).put mt).put mt)
    · show At _ _ _ (.ins _ dx (rgf ((S.A.n + 1 : Nat) : Int) S.sp S.fi (((S.A.n + 1 : Nat) : Int) + 1 - (S.b : Int)) me ((S.W : Int) - 1) v ab)) _
      rw [show (((S.A.n + 1 : Nat) : Int) + 1 - (S.b : Int)) = (S.A.n : Int) + 1 - (S.b : Int) + 1 by omega]
      exact .set d1.2
    · show At _ _ _ (.lst (S.A.down.view.map V.int)) _
      rw [Ab.view_down ho.a]
      exact ((dv.put d1.2 (by simp)).put d1.2 (by simp)).put d1.2 (by simp)
    · exact ((d3.put d1.2 (by simp)).put d1.2 (by simp)).put d1.2 (by simp)
    · show At _ _ _ (.lst ((upF S.A.L (S.A.n + 1) z8 k ++ upF S.A.R (S.A.n + 2) z8 k).map V.int)) _
      have hk' : k < S.A.n + 1 := h2
      rw [upF_ne (by omega), upF_ne (by omega)]
      by_cases e : k = S.A.n
      · subst e
        rw [upA_same, ← Ab.view_ins ho.a]
        exact ((dp.put d1.2 (by simp)).put d1.2 (by simp)).put d1.2 (by simp)
      · rw [upA_ne e]
        exact (((d4 k h1 (by omega)).put d1.2 (by simp)).put d1.2 (by simp)).put d1.2 (by simp)
    · exact ((d5.put d1.2 (by simp [i8.symm])).put d1.2 (by simp [i8.symm])).put d1.2 (by simp [i8.symm])
end

section
variable {P : Program} {w : World} {K : PySem.W.Frag} {mg : Str → Option Value} {base : Heap} {a : Ad}
theorem ok_Ring_shift_up (T : Txt w K mg a) : FnOk P w K mg base (L2.CX P w) 3 a.f_Ring_shift_up a.d_Ring_shift_up ["self"] (spRU a.C_Ring a.C_Fault) := by
  have G_view_above : FnOk P w K mg base CX0 1 _ _ _ _ := ok_view_above T
  have G_Ring__fill : FnOk P w K mg base (L2.CX P w) 2 _ _ _ _ := ok_Ring_fill T
  refine T.F_Ring_shift_up.okX sc_Ring_shift_up (fun vs H Q E h => ?_) (fun cdv A outer s H vs Q E hr h => ?_)
  · obtain ⟨_, _, _, _, _, rfl, _⟩ := h; rfl
  · obtain ⟨τ, i, t, me, S0, rfl, i8, W0, ho0, hn0, q1, q2⟩ := h
    refine ⟨_, (C8.pss_cut (ps_if (pt_cmpR op_eq (pe_fld (pv 0) rfl) pe_int (nomark _)) (pss_one (ps_expr (pe_meth0 (pv 0) T.cl_Ring T.m_Ring__fill G_Ring__fill (hr.mono (by decide)) T.bd_Ring__fill .nil (passes_call (takes_of rfl rfl rfl rfl) fun _ _ _ _ z => z)))) pss_nil)
      (pss_cons (ps_fld (pv 0) (pe_call G_view_above (hr.mono (by decide)) rfl T.g_view_above T.k_view_above T.bd_view_above .nil pass0 (pa_cons (pe_fld (pv 0) rfl) (pa_cons (pe_bm0 PySem.F.plainAttrs_list PySem.F.slot_list_pop PySem.F.type_list_pop mt_pop (pe_fld (pv 0) rfl)) pa_nil))) rfl)
      (pss_cons (ps_fldaug (pv 0) pe_int in_sub)
      (pss_one (ps_fldaug (pv 0) pe_int in_sub))))), ?_⟩
    refine ⟨fun σ H' => ∃ S τ', RG a.C_Ring τ' i H' t me S ∧ Stp τ τ' [i, 8] H H' ∧ S.ok ∧ S.b < S.A.n ∧ S0.up = some S.up1 ∧ σ = [some (.ref t)], ?_, ?_⟩
    · have W0' := W0
      obtain ⟨dx, vw, ab, ar, W⟩ := W0'
      have hb0 := ho0.b
      refine ⟨_, rfl, t, a.C_Ring, dx, _, _, rfl, W.ob.1, T.cl_Ring, T.n_Ring_resident, rgf_resident _ _ _ _ _ _ _ _, rfl, _, rfl, ite3 (fun e => ?_) (fun e => ?_)⟩
      · have f : S0.b = S0.A.n := by
          have e := of_decide_eq_true e
          have e : (S0.A.n : Int) + 1 - (S0.b : Int) = 1 := by injection e
          omega
        exact ⟨_, rfl, t, dx, _, rfl, W.ob.1, rgf_no__fill _ _ _ _ _ _ _ _, τ, i, t, me, S0, rfl, i8, W0, ho0, f, hn0, fun l τ' H' W' F' => ⟨S0.fill, τ', W', F', (ho0.fill f hn0 l).1, (ho0.fill f hn0 l).2, RS.up_low f l, rfl⟩, fun l τ' H' W' F' => q2 τ' H' (RS.up_none f l) W' F'⟩
      · have f : ¬ S0.b = S0.A.n := fun f => of_decide_eq_false e (by rw [show (S0.A.n : Int) + 1 - (S0.b : Int) = 1 by omega])
        exact ⟨S0, τ, W0, Stp.refl, ho0, by omega, RS.up_free f, rfl⟩
    clear W0
    rintro σ H0 ⟨S, τ0, ⟨dx, vw, ab, ar, W⟩, F0, ho, hb, ed, rfl⟩
    have q := fun τ' H' => q1 S.up1 τ' H' ed
    obtain ⟨m, hm⟩ : ∃ m, S.A.n = m + 1 := ⟨S.A.n - 1, by omega⟩
    obtain ⟨n, hn⟩ : ∃ n, S.A.n - S.b = n + 1 := ⟨S.A.n - S.b - 1, by omega⟩
    have W3 := W.ab
    rw [hn] at W3
    refine ⟨_, rfl, t, a.C_Ring, dx, _, _, rfl, W.ob.1, T.cl_Ring, T.n_Ring__view, rgf__view _ _ _ _ _ _ _ _, ?_⟩
    refine ⟨_, rfl, t, a.C_Ring, dx, _, _, rfl, W.ob.1, T.cl_Ring, T.n_Ring__above, rgf__above _ _ _ _ _ _ _ _, .inl ⟨rfl, _, SqL.of W3.1⟩, ab, _, V.ref (ar m), rfl, rfl, W3.1, (by rw [rng_len, show m = S.b + n by omega]; exact rng_at (f := fun k => V.ref (ar (S.b + k))) (by omega)), ?_⟩
    rw [rng_drop]
    have c1 := W.ob.put W3.2 (u := .lst ((List.range n).map fun k => V.ref (ar (S.b + k)))) (by simp)
    have c2 := W.vw.put W3.2 (u := .lst ((List.range n).map fun k => V.ref (ar (S.b + k)))) (by simp)
    have c4 := fun k h1 h2 => (W.ar k h1 h2).put W3.2 (u := .lst ((List.range n).map fun k => V.ref (ar (S.b + k)))) (by simp)
    have c5 := W.me.put W3.2 (u := .lst ((List.range n).map fun k => V.ref (ar (S.b + k)))) (by simp [i8.symm])
    have c3 : At _ _ ab _ _ := At.set (H := H0) (o := .lst ((List.range n).map fun k => V.ref (ar (S.b + k)))) W3.2
    have S2 := F0.put (o := .lst ((List.range n).map fun k => V.ref (ar (S.b + k)))) (by rw [W3.2]; simp)
    refine ⟨vw, ar m, _, _, rfl, c2.1, (c4 m (by omega) (by omega)).1, ho.a.view, by simp [ho.a.l, ho.a.r], fun v H2 nv s2 hv => ?_⟩
    have d1 := c1.sameN s2 nv (y := (i, 1, 0))
    have d3 := c3.sameN s2 nv (y := (i, 1, 0))
    have d4 := fun k h1 h2 => (c4 k h1 h2).sameN s2 nv (y := (i, 1, 0))
    have d5 := c5.sameN s2 nv (y := (i, 1, 0))
    have dv := At.in (τ := τ0) (x := (i, 1, 0)) hv
    have S3 := S2.sameN s2 nv (x := (i, 1, 0))
    refine ⟨_, rfl, t, a.C_Ring, dx, _, rfl, d1.1, T.cl_Ring, T.n_Ring__view, (by show 8 < 1000; decide), ?_⟩
    rw [rgf_put__view]
    refine ⟨_, rfl, t, a.C_Ring, dx, _, _, rfl, upd_same, T.cl_Ring, T.n_Ring_depth, rgf_depth _ _ _ _ _ _ _ _, _, _, rfl, rfl, dx, _, upd_same, (by show 8 < 1000; decide), ?_⟩
    rw [rgf_put_depth]
    refine ⟨_, rfl, t, a.C_Ring, dx, _, _, rfl, upd_same, T.cl_Ring, T.n_Ring_resident, rgf_resident _ _ _ _ _ _ _ _, _, _, rfl, rfl, dx, _, upd_same, (by show 8 < 1000; decide), ?_⟩
    rw [rgf_put_resident]
    have mt : (tgN τ0 v (i, 1, 0) t).1 ∈ [i, 8] := by rw [d1.2]; simp
    have en : S.up1.A.n = m := by show S.A.n - 1 = m; omega
    refine q _ _ ⟨dx, v, ab, ar, ?_, ?_, ?_, fun k h1 h2 => ?_, ?_⟩ (((S3.put mt).put mt).put mt)
    · rw [en]
      show At _ _ _ (.ins _ dx (rgf (m : Int) S.sp S.fi ((m : Int) + 1 - (S.b : Int)) me ((S.W : Int) - 1) v ab)) _
      rw [show (m : Int) + 1 - (S.b : Int) = (S.A.n : Int) + 1 - (S.b : Int) - 1 by omega, show (m : Int) = (S.A.n : Int) - 1 by omega]
      exact .set d1.2
    · show At _ _ _ (.lst (S.A.up.view.map V.int)) _
      rw [Ab.view_up ho.a hm]
      exact ((dv.put d1.2 (by simp)).put d1.2 (by simp)).put d1.2 (by simp)
    · rw [en]
      show At _ _ _ (.lst ((List.range (m - S.b)).map fun k => V.ref (ar (S.b + k)))) _
      rw [show m - S.b = n by omega]
      exact ((d3.put d1.2 (by simp)).put d1.2 (by simp)).put d1.2 (by simp)
    · rw [en] at h2
      exact (((d4 k h1 (by omega)).put d1.2 (by simp)).put d1.2 (by simp)).put d1.2 (by simp)
    · exact ((d5.put d1.2 (by simp [i8.symm])).put d1.2 (by simp [i8.symm])).put d1.2 (by simp [i8.symm])
end

theorem bkf_e0_1 : (("depth" : Str) == "spills") = false := by decide +kernel
theorem bkf_q0_1 : (("depth" : Str) = "spills") = False := by simp only [eq_iff_iff, iff_false]; decide +kernel
theorem bkf_e0_2 : (("depth" : Str) == "fills") = false := by decide +kernel
theorem bkf_q0_2 : (("depth" : Str) = "fills") = False := by simp only [eq_iff_iff, iff_false]; decide +kernel
theorem bkf_e0_3 : (("depth" : Str) == "current") = false := by decide +kernel
theorem bkf_q0_3 : (("depth" : Str) = "current") = False := by simp only [eq_iff_iff, iff_false]; decide +kernel
theorem bkf_e0_4 : (("depth" : Str) == "barred") = false := by decide +kernel
theorem bkf_q0_4 : (("depth" : Str) = "barred") = False := by simp only [eq_iff_iff, iff_false]; decide +kernel
theorem bkf_e0_5 : (("depth" : Str) == "_globals") = false := by decide +kernel
theorem bkf_q0_5 : (("depth" : Str) = "_globals") = False := by simp only [eq_iff_iff, iff_false]; decide +kernel
theorem bkf_e0_6 : (("depth" : Str) == "_windows") = false := by decide +kernel
theorem bkf_q0_6 : (("depth" : Str) = "_windows") = False := by simp only [eq_iff_iff, iff_false]; decide +kernel
theorem bkf_e1_0 : (("spills" : Str) == "depth") = false := by decide +kernel
theorem bkf_q1_0 : (("spills" : Str) = "depth") = False := by simp only [eq_iff_iff, iff_false]; decide +kernel
theorem bkf_e1_2 : (("spills" : Str) == "fills") = false := by decide +kernel
theorem bkf_q1_2 : (("spills" : Str) = "fills") = False := by simp only [eq_iff_iff, iff_false]; decide +kernel
theorem bkf_e1_3 : (("spills" : Str) == "current") = false := by decide +kernel
theorem bkf_q1_3 : (("spills" : Str) = "current") = False := by simp only [eq_iff_iff, iff_false]; decide +kernel
theorem bkf_e1_4 : (("spills" : Str) == "barred") = false := by decide +kernel
theorem bkf_q1_4 : (("spills" : Str) = "barred") = False := by simp only [eq_iff_iff, iff_false]; decide +kernel
theorem bkf_e1_5 : (("spills" : Str) == "_globals") = false := by decide +kernel
theorem bkf_q1_5 : (("spills" : Str) = "_globals") = False := by simp only [eq_iff_iff, iff_false]; decide +kernel
theorem bkf_e1_6 : (("spills" : Str) == "_windows") = false := by decide +kernel
theorem bkf_q1_6 : (("spills" : Str) = "_windows") = False := by simp only [eq_iff_iff, iff_false]; decide +kernel
theorem bkf_e2_0 : (("fills" : Str) == "depth") = false := by decide +kernel
theorem bkf_q2_0 : (("fills" : Str) = "depth") = False := by simp only [eq_iff_iff, iff_false]; decide +kernel
theorem bkf_e2_1 : (("fills" : Str) == "spills") = false := by decide +kernel
theorem bkf_q2_1 : (("fills" : Str) = "spills") = False := by simp only [eq_iff_iff, iff_false]; decide +kernel
theorem bkf_e2_3 : (("fills" : Str) == "current") = false := by decide +kernel
theorem bkf_q2_3 : (("fills" : Str) = "current") = False := by simp only [eq_iff_iff, iff_false]; decide +kernel
theorem bkf_e2_4 : (("fills" : Str) == "barred") = false := by decide +kernel
theorem bkf_q2_4 : (("fills" : Str) = "barred") = False := by simp only [eq_iff_iff, iff_false]; decide +kernel
theorem bkf_e2_5 : (("fills" : Str) == "_globals") = false := by decide +kernel
theorem bkf_q2_5 : (("fills" : Str) = "_globals") = False := by simp only [eq_iff_iff, iff_false]; decide +kernel
theorem bkf_e2_6 : (("fills" : Str) == "_windows") = false := by decide +kernel
theorem bkf_q2_6 : (("fills" : Str) = "_windows") = False := by simp only [eq_iff_iff, iff_false]; decide +kernel
theorem bkf_e3_0 : (("current" : Str) == "depth") = false := by decide +kernel
theorem bkf_q3_0 : (("current" : Str) = "depth") = False := by simp only [eq_iff_iff, iff_false]; decide +kernel
theorem bkf_e3_1 : (("current" : Str) == "spills") = false := by decide +kernel
theorem bkf_q3_1 : (("current" : Str) = "spills") = False := by simp only [eq_iff_iff, iff_false]; decide +kernel
theorem bkf_e3_2 : (("current" : Str) == "fills") = false := by decide +kernel
theorem bkf_q3_2 : (("current" : Str) = "fills") = False := by simp only [eq_iff_iff, iff_false]; decide +kernel
theorem bkf_e3_4 : (("current" : Str) == "barred") = false := by decide +kernel
theorem bkf_q3_4 : (("current" : Str) = "barred") = False := by simp only [eq_iff_iff, iff_false]; decide +kernel
theorem bkf_e3_5 : (("current" : Str) == "_globals") = false := by decide +kernel
theorem bkf_q3_5 : (("current" : Str) = "_globals") = False := by simp only [eq_iff_iff, iff_false]; decide +kernel
theorem bkf_e3_6 : (("current" : Str) == "_windows") = false := by decide +kernel
theorem bkf_q3_6 : (("current" : Str) = "_windows") = False := by simp only [eq_iff_iff, iff_false]; decide +kernel
theorem bkf_e4_0 : (("barred" : Str) == "depth") = false := by decide +kernel
theorem bkf_q4_0 : (("barred" : Str) = "depth") = False := by simp only [eq_iff_iff, iff_false]; decide +kernel
theorem bkf_e4_1 : (("barred" : Str) == "spills") = false := by decide +kernel
theorem bkf_q4_1 : (("barred" : Str) = "spills") = False := by simp only [eq_iff_iff, iff_false]; decide +kernel
theorem bkf_e4_2 : (("barred" : Str) == "fills") = false := by decide +kernel
theorem bkf_q4_2 : (("barred" : Str) = "fills") = False := by simp only [eq_iff_iff, iff_false]; decide +kernel
theorem bkf_e4_3 : (("barred" : Str) == "current") = false := by decide +kernel
theorem bkf_q4_3 : (("barred" : Str) = "current") = False := by simp only [eq_iff_iff, iff_false]; decide +kernel
theorem bkf_e4_5 : (("barred" : Str) == "_globals") = false := by decide +kernel
theorem bkf_q4_5 : (("barred" : Str) = "_globals") = False := by simp only [eq_iff_iff, iff_false]; decide +kernel
theorem bkf_e4_6 : (("barred" : Str) == "_windows") = false := by decide +kernel
theorem bkf_q4_6 : (("barred" : Str) = "_windows") = False := by simp only [eq_iff_iff, iff_false]; decide +kernel
theorem bkf_e5_0 : (("_globals" : Str) == "depth") = false := by decide +kernel
theorem bkf_q5_0 : (("_globals" : Str) = "depth") = False := by simp only [eq_iff_iff, iff_false]; decide +kernel
theorem bkf_e5_1 : (("_globals" : Str) == "spills") = false := by decide +kernel
theorem bkf_q5_1 : (("_globals" : Str) = "spills") = False := by simp only [eq_iff_iff, iff_false]; decide +kernel
theorem bkf_e5_2 : (("_globals" : Str) == "fills") = false := by decide +kernel
theorem bkf_q5_2 : (("_globals" : Str) = "fills") = False := by simp only [eq_iff_iff, iff_false]; decide +kernel
theorem bkf_e5_3 : (("_globals" : Str) == "current") = false := by decide +kernel
theorem bkf_q5_3 : (("_globals" : Str) = "current") = False := by simp only [eq_iff_iff, iff_false]; decide +kernel
theorem bkf_e5_4 : (("_globals" : Str) == "barred") = false := by decide +kernel
theorem bkf_q5_4 : (("_globals" : Str) = "barred") = False := by simp only [eq_iff_iff, iff_false]; decide +kernel
theorem bkf_e5_6 : (("_globals" : Str) == "_windows") = false := by decide +kernel
theorem bkf_q5_6 : (("_globals" : Str) = "_windows") = False := by simp only [eq_iff_iff, iff_false]; decide +kernel
theorem bkf_e6_0 : (("_windows" : Str) == "depth") = false := by decide +kernel
theorem bkf_q6_0 : (("_windows" : Str) = "depth") = False := by simp only [eq_iff_iff, iff_false]; decide +kernel
theorem bkf_e6_1 : (("_windows" : Str) == "spills") = false := by decide +kernel
theorem bkf_q6_1 : (("_windows" : Str) = "spills") = False := by simp only [eq_iff_iff, iff_false]; decide +kernel
theorem bkf_e6_2 : (("_windows" : Str) == "fills") = false := by decide +kernel
theorem bkf_q6_2 : (("_windows" : Str) = "fills") = False := by simp only [eq_iff_iff, iff_false]; decide +kernel
theorem bkf_e6_3 : (("_windows" : Str) == "current") = false := by decide +kernel
theorem bkf_q6_3 : (("_windows" : Str) = "current") = False := by simp only [eq_iff_iff, iff_false]; decide +kernel
theorem bkf_e6_4 : (("_windows" : Str) == "barred") = false := by decide +kernel
theorem bkf_q6_4 : (("_windows" : Str) = "barred") = False := by simp only [eq_iff_iff, iff_false]; decide +kernel
theorem bkf_e6_5 : (("_windows" : Str) == "_globals") = false := by decide +kernel
theorem bkf_q6_5 : (("_windows" : Str) = "_globals") = False := by simp only [eq_iff_iff, iff_false]; decide +kernel
def bkf (x0 : Int) (x1 : Int) (x2 : Int) (x3 : Int) (x4 : Int) (x5 : Addr) (x6 : Addr) : List (Str × V) := [("depth", .int x0), ("spills", .int x1), ("fills", .int x2), ("current", .int x3), ("barred", .int x4), ("_globals", .ref x5), ("_windows", .ref x6)]
theorem bkf_depth (x0 : Int) (x1 : Int) (x2 : Int) (x3 : Int) (x4 : Int) (x5 : Addr) (x6 : Addr) : (bkf x0 x1 x2 x3 x4 x5 x6).lookup ("depth" : Str) = some (V.int x0) := by simp [bkf, List.lookup, bkf]
theorem bkf_spills (x0 : Int) (x1 : Int) (x2 : Int) (x3 : Int) (x4 : Int) (x5 : Addr) (x6 : Addr) : (bkf x0 x1 x2 x3 x4 x5 x6).lookup ("spills" : Str) = some (V.int x1) := by simp [bkf, List.lookup, bkf_e1_0]
theorem bkf_fills (x0 : Int) (x1 : Int) (x2 : Int) (x3 : Int) (x4 : Int) (x5 : Addr) (x6 : Addr) : (bkf x0 x1 x2 x3 x4 x5 x6).lookup ("fills" : Str) = some (V.int x2) := by simp [bkf, List.lookup, bkf_e2_0, bkf_e2_1]
theorem bkf_current (x0 : Int) (x1 : Int) (x2 : Int) (x3 : Int) (x4 : Int) (x5 : Addr) (x6 : Addr) : (bkf x0 x1 x2 x3 x4 x5 x6).lookup ("current" : Str) = some (V.int x3) := by simp [bkf, List.lookup, bkf_e3_0, bkf_e3_1, bkf_e3_2]
theorem bkf_barred (x0 : Int) (x1 : Int) (x2 : Int) (x3 : Int) (x4 : Int) (x5 : Addr) (x6 : Addr) : (bkf x0 x1 x2 x3 x4 x5 x6).lookup ("barred" : Str) = some (V.int x4) := by simp [bkf, List.lookup, bkf_e4_0, bkf_e4_1, bkf_e4_2, bkf_e4_3]
theorem bkf__globals (x0 : Int) (x1 : Int) (x2 : Int) (x3 : Int) (x4 : Int) (x5 : Addr) (x6 : Addr) : (bkf x0 x1 x2 x3 x4 x5 x6).lookup ("_globals" : Str) = some (V.ref x5) := by simp [bkf, List.lookup, bkf_e5_0, bkf_e5_1, bkf_e5_2, bkf_e5_3, bkf_e5_4]
theorem bkf__windows (x0 : Int) (x1 : Int) (x2 : Int) (x3 : Int) (x4 : Int) (x5 : Addr) (x6 : Addr) : (bkf x0 x1 x2 x3 x4 x5 x6).lookup ("_windows" : Str) = some (V.ref x6) := by simp [bkf, List.lookup, bkf_e6_0, bkf_e6_1, bkf_e6_2, bkf_e6_3, bkf_e6_4, bkf_e6_5]
theorem bkf_mread_0 : (("read" : Str) == "depth") = false := by decide +kernel
theorem bkf_mread_1 : (("read" : Str) == "spills") = false := by decide +kernel
theorem bkf_mread_2 : (("read" : Str) == "fills") = false := by decide +kernel
theorem bkf_mread_3 : (("read" : Str) == "current") = false := by decide +kernel
theorem bkf_mread_4 : (("read" : Str) == "barred") = false := by decide +kernel
theorem bkf_mread_5 : (("read" : Str) == "_globals") = false := by decide +kernel
theorem bkf_mread_6 : (("read" : Str) == "_windows") = false := by decide +kernel
theorem bkf_no_read (x0 : Int) (x1 : Int) (x2 : Int) (x3 : Int) (x4 : Int) (x5 : Addr) (x6 : Addr) : (bkf x0 x1 x2 x3 x4 x5 x6).lookup ("read" : Str) = none := by simp [bkf, List.lookup, bkf_mread_0, bkf_mread_1, bkf_mread_2, bkf_mread_3, bkf_mread_4, bkf_mread_5, bkf_mread_6]
theorem bkf_mwrite_0 : (("write" : Str) == "depth") = false := by decide +kernel
theorem bkf_mwrite_1 : (("write" : Str) == "spills") = false := by decide +kernel
theorem bkf_mwrite_2 : (("write" : Str) == "fills") = false := by decide +kernel
theorem bkf_mwrite_3 : (("write" : Str) == "current") = false := by decide +kernel
theorem bkf_mwrite_4 : (("write" : Str) == "barred") = false := by decide +kernel
theorem bkf_mwrite_5 : (("write" : Str) == "_globals") = false := by decide +kernel
theorem bkf_mwrite_6 : (("write" : Str) == "_windows") = false := by decide +kernel
theorem bkf_no_write (x0 : Int) (x1 : Int) (x2 : Int) (x3 : Int) (x4 : Int) (x5 : Addr) (x6 : Addr) : (bkf x0 x1 x2 x3 x4 x5 x6).lookup ("write" : Str) = none := by simp [bkf, List.lookup, bkf_mwrite_0, bkf_mwrite_1, bkf_mwrite_2, bkf_mwrite_3, bkf_mwrite_4, bkf_mwrite_5, bkf_mwrite_6]
theorem bkf_mshift_down_0 : (("shift_down" : Str) == "depth") = false := by decide +kernel
theorem bkf_mshift_down_1 : (("shift_down" : Str) == "spills") = false := by decide +kernel
theorem bkf_mshift_down_2 : (("shift_down" : Str) == "fills") = false := by decide +kernel
theorem bkf_mshift_down_3 : (("shift_down" : Str) == "current") = false := by decide +kernel
theorem bkf_mshift_down_4 : (("shift_down" : Str) == "barred") = false := by decide +kernel
theorem bkf_mshift_down_5 : (("shift_down" : Str) == "_globals") = false := by decide +kernel
theorem bkf_mshift_down_6 : (("shift_down" : Str) == "_windows") = false := by decide +kernel
theorem bkf_no_shift_down (x0 : Int) (x1 : Int) (x2 : Int) (x3 : Int) (x4 : Int) (x5 : Addr) (x6 : Addr) : (bkf x0 x1 x2 x3 x4 x5 x6).lookup ("shift_down" : Str) = none := by simp [bkf, List.lookup, bkf_mshift_down_0, bkf_mshift_down_1, bkf_mshift_down_2, bkf_mshift_down_3, bkf_mshift_down_4, bkf_mshift_down_5, bkf_mshift_down_6]
theorem bkf_mshift_up_0 : (("shift_up" : Str) == "depth") = false := by decide +kernel
theorem bkf_mshift_up_1 : (("shift_up" : Str) == "spills") = false := by decide +kernel
theorem bkf_mshift_up_2 : (("shift_up" : Str) == "fills") = false := by decide +kernel
theorem bkf_mshift_up_3 : (("shift_up" : Str) == "current") = false := by decide +kernel
theorem bkf_mshift_up_4 : (("shift_up" : Str) == "barred") = false := by decide +kernel
theorem bkf_mshift_up_5 : (("shift_up" : Str) == "_globals") = false := by decide +kernel
theorem bkf_mshift_up_6 : (("shift_up" : Str) == "_windows") = false := by decide +kernel
theorem bkf_no_shift_up (x0 : Int) (x1 : Int) (x2 : Int) (x3 : Int) (x4 : Int) (x5 : Addr) (x6 : Addr) : (bkf x0 x1 x2 x3 x4 x5 x6).lookup ("shift_up" : Str) = none := by simp [bkf, List.lookup, bkf_mshift_up_0, bkf_mshift_up_1, bkf_mshift_up_2, bkf_mshift_up_3, bkf_mshift_up_4, bkf_mshift_up_5, bkf_mshift_up_6]
theorem bkf_mblocked_down_0 : (("blocked_down" : Str) == "depth") = false := by decide +kernel
theorem bkf_mblocked_down_1 : (("blocked_down" : Str) == "spills") = false := by decide +kernel
theorem bkf_mblocked_down_2 : (("blocked_down" : Str) == "fills") = false := by decide +kernel
theorem bkf_mblocked_down_3 : (("blocked_down" : Str) == "current") = false := by decide +kernel
theorem bkf_mblocked_down_4 : (("blocked_down" : Str) == "barred") = false := by decide +kernel
theorem bkf_mblocked_down_5 : (("blocked_down" : Str) == "_globals") = false := by decide +kernel
theorem bkf_mblocked_down_6 : (("blocked_down" : Str) == "_windows") = false := by decide +kernel
theorem bkf_no_blocked_down (x0 : Int) (x1 : Int) (x2 : Int) (x3 : Int) (x4 : Int) (x5 : Addr) (x6 : Addr) : (bkf x0 x1 x2 x3 x4 x5 x6).lookup ("blocked_down" : Str) = none := by simp [bkf, List.lookup, bkf_mblocked_down_0, bkf_mblocked_down_1, bkf_mblocked_down_2, bkf_mblocked_down_3, bkf_mblocked_down_4, bkf_mblocked_down_5, bkf_mblocked_down_6]
theorem bkf_mblocked_up_0 : (("blocked_up" : Str) == "depth") = false := by decide +kernel
theorem bkf_mblocked_up_1 : (("blocked_up" : Str) == "spills") = false := by decide +kernel
theorem bkf_mblocked_up_2 : (("blocked_up" : Str) == "fills") = false := by decide +kernel
theorem bkf_mblocked_up_3 : (("blocked_up" : Str) == "current") = false := by decide +kernel
theorem bkf_mblocked_up_4 : (("blocked_up" : Str) == "barred") = false := by decide +kernel
theorem bkf_mblocked_up_5 : (("blocked_up" : Str) == "_globals") = false := by decide +kernel
theorem bkf_mblocked_up_6 : (("blocked_up" : Str) == "_windows") = false := by decide +kernel
theorem bkf_no_blocked_up (x0 : Int) (x1 : Int) (x2 : Int) (x3 : Int) (x4 : Int) (x5 : Addr) (x6 : Addr) : (bkf x0 x1 x2 x3 x4 x5 x6).lookup ("blocked_up" : Str) = none := by simp [bkf, List.lookup, bkf_mblocked_up_0, bkf_mblocked_up_1, bkf_mblocked_up_2, bkf_mblocked_up_3, bkf_mblocked_up_4, bkf_mblocked_up_5, bkf_mblocked_up_6]
theorem bkf_mset_bar_0 : (("set_bar" : Str) == "depth") = false := by decide +kernel
theorem bkf_mset_bar_1 : (("set_bar" : Str) == "spills") = false := by decide +kernel
theorem bkf_mset_bar_2 : (("set_bar" : Str) == "fills") = false := by decide +kernel
theorem bkf_mset_bar_3 : (("set_bar" : Str) == "current") = false := by decide +kernel
theorem bkf_mset_bar_4 : (("set_bar" : Str) == "barred") = false := by decide +kernel
theorem bkf_mset_bar_5 : (("set_bar" : Str) == "_globals") = false := by decide +kernel
theorem bkf_mset_bar_6 : (("set_bar" : Str) == "_windows") = false := by decide +kernel
theorem bkf_no_set_bar (x0 : Int) (x1 : Int) (x2 : Int) (x3 : Int) (x4 : Int) (x5 : Addr) (x6 : Addr) : (bkf x0 x1 x2 x3 x4 x5 x6).lookup ("set_bar" : Str) = none := by simp [bkf, List.lookup, bkf_mset_bar_0, bkf_mset_bar_1, bkf_mset_bar_2, bkf_mset_bar_3, bkf_mset_bar_4, bkf_mset_bar_5, bkf_mset_bar_6]
theorem bkf_mtrap_down_0 : (("trap_down" : Str) == "depth") = false := by decide +kernel
theorem bkf_mtrap_down_1 : (("trap_down" : Str) == "spills") = false := by decide +kernel
theorem bkf_mtrap_down_2 : (("trap_down" : Str) == "fills") = false := by decide +kernel
theorem bkf_mtrap_down_3 : (("trap_down" : Str) == "current") = false := by decide +kernel
theorem bkf_mtrap_down_4 : (("trap_down" : Str) == "barred") = false := by decide +kernel
theorem bkf_mtrap_down_5 : (("trap_down" : Str) == "_globals") = false := by decide +kernel
theorem bkf_mtrap_down_6 : (("trap_down" : Str) == "_windows") = false := by decide +kernel
theorem bkf_no_trap_down (x0 : Int) (x1 : Int) (x2 : Int) (x3 : Int) (x4 : Int) (x5 : Addr) (x6 : Addr) : (bkf x0 x1 x2 x3 x4 x5 x6).lookup ("trap_down" : Str) = none := by simp [bkf, List.lookup, bkf_mtrap_down_0, bkf_mtrap_down_1, bkf_mtrap_down_2, bkf_mtrap_down_3, bkf_mtrap_down_4, bkf_mtrap_down_5, bkf_mtrap_down_6]
theorem bkf_mtrap_up_0 : (("trap_up" : Str) == "depth") = false := by decide +kernel
theorem bkf_mtrap_up_1 : (("trap_up" : Str) == "spills") = false := by decide +kernel
theorem bkf_mtrap_up_2 : (("trap_up" : Str) == "fills") = false := by decide +kernel
theorem bkf_mtrap_up_3 : (("trap_up" : Str) == "current") = false := by decide +kernel
theorem bkf_mtrap_up_4 : (("trap_up" : Str) == "barred") = false := by decide +kernel
theorem bkf_mtrap_up_5 : (("trap_up" : Str) == "_globals") = false := by decide +kernel
theorem bkf_mtrap_up_6 : (("trap_up" : Str) == "_windows") = false := by decide +kernel
theorem bkf_no_trap_up (x0 : Int) (x1 : Int) (x2 : Int) (x3 : Int) (x4 : Int) (x5 : Addr) (x6 : Addr) : (bkf x0 x1 x2 x3 x4 x5 x6).lookup ("trap_up" : Str) = none := by simp [bkf, List.lookup, bkf_mtrap_up_0, bkf_mtrap_up_1, bkf_mtrap_up_2, bkf_mtrap_up_3, bkf_mtrap_up_4, bkf_mtrap_up_5, bkf_mtrap_up_6]
theorem bkf_mleave_trap_0 : (("leave_trap" : Str) == "depth") = false := by decide +kernel
theorem bkf_mleave_trap_1 : (("leave_trap" : Str) == "spills") = false := by decide +kernel
theorem bkf_mleave_trap_2 : (("leave_trap" : Str) == "fills") = false := by decide +kernel
theorem bkf_mleave_trap_3 : (("leave_trap" : Str) == "current") = false := by decide +kernel
theorem bkf_mleave_trap_4 : (("leave_trap" : Str) == "barred") = false := by decide +kernel
theorem bkf_mleave_trap_5 : (("leave_trap" : Str) == "_globals") = false := by decide +kernel
theorem bkf_mleave_trap_6 : (("leave_trap" : Str) == "_windows") = false := by decide +kernel
theorem bkf_no_leave_trap (x0 : Int) (x1 : Int) (x2 : Int) (x3 : Int) (x4 : Int) (x5 : Addr) (x6 : Addr) : (bkf x0 x1 x2 x3 x4 x5 x6).lookup ("leave_trap" : Str) = none := by simp [bkf, List.lookup, bkf_mleave_trap_0, bkf_mleave_trap_1, bkf_mleave_trap_2, bkf_mleave_trap_3, bkf_mleave_trap_4, bkf_mleave_trap_5, bkf_mleave_trap_6]
theorem bkf_m_begin_trap_0 : (("_begin_trap" : Str) == "depth") = false := by decide +kernel
theorem bkf_m_begin_trap_1 : (("_begin_trap" : Str) == "spills") = false := by decide +kernel
theorem bkf_m_begin_trap_2 : (("_begin_trap" : Str) == "fills") = false := by decide +kernel
theorem bkf_m_begin_trap_3 : (("_begin_trap" : Str) == "current") = false := by decide +kernel
theorem bkf_m_begin_trap_4 : (("_begin_trap" : Str) == "barred") = false := by decide +kernel
theorem bkf_m_begin_trap_5 : (("_begin_trap" : Str) == "_globals") = false := by decide +kernel
theorem bkf_m_begin_trap_6 : (("_begin_trap" : Str) == "_windows") = false := by decide +kernel
theorem bkf_no__begin_trap (x0 : Int) (x1 : Int) (x2 : Int) (x3 : Int) (x4 : Int) (x5 : Addr) (x6 : Addr) : (bkf x0 x1 x2 x3 x4 x5 x6).lookup ("_begin_trap" : Str) = none := by simp [bkf, List.lookup, bkf_m_begin_trap_0, bkf_m_begin_trap_1, bkf_m_begin_trap_2, bkf_m_begin_trap_3, bkf_m_begin_trap_4, bkf_m_begin_trap_5, bkf_m_begin_trap_6]
theorem bkf_m_go_down_0 : (("_go_down" : Str) == "depth") = false := by decide +kernel
theorem bkf_m_go_down_1 : (("_go_down" : Str) == "spills") = false := by decide +kernel
theorem bkf_m_go_down_2 : (("_go_down" : Str) == "fills") = false := by decide +kernel
theorem bkf_m_go_down_3 : (("_go_down" : Str) == "current") = false := by decide +kernel
theorem bkf_m_go_down_4 : (("_go_down" : Str) == "barred") = false := by decide +kernel
theorem bkf_m_go_down_5 : (("_go_down" : Str) == "_globals") = false := by decide +kernel
theorem bkf_m_go_down_6 : (("_go_down" : Str) == "_windows") = false := by decide +kernel
theorem bkf_no__go_down (x0 : Int) (x1 : Int) (x2 : Int) (x3 : Int) (x4 : Int) (x5 : Addr) (x6 : Addr) : (bkf x0 x1 x2 x3 x4 x5 x6).lookup ("_go_down" : Str) = none := by simp [bkf, List.lookup, bkf_m_go_down_0, bkf_m_go_down_1, bkf_m_go_down_2, bkf_m_go_down_3, bkf_m_go_down_4, bkf_m_go_down_5, bkf_m_go_down_6]
theorem bkf_m_window_below_0 : (("_window_below" : Str) == "depth") = false := by decide +kernel
theorem bkf_m_window_below_1 : (("_window_below" : Str) == "spills") = false := by decide +kernel
theorem bkf_m_window_below_2 : (("_window_below" : Str) == "fills") = false := by decide +kernel
theorem bkf_m_window_below_3 : (("_window_below" : Str) == "current") = false := by decide +kernel
theorem bkf_m_window_below_4 : (("_window_below" : Str) == "barred") = false := by decide +kernel
theorem bkf_m_window_below_5 : (("_window_below" : Str) == "_globals") = false := by decide +kernel
theorem bkf_m_window_below_6 : (("_window_below" : Str) == "_windows") = false := by decide +kernel
theorem bkf_no__window_below (x0 : Int) (x1 : Int) (x2 : Int) (x3 : Int) (x4 : Int) (x5 : Addr) (x6 : Addr) : (bkf x0 x1 x2 x3 x4 x5 x6).lookup ("_window_below" : Str) = none := by simp [bkf, List.lookup, bkf_m_window_below_0, bkf_m_window_below_1, bkf_m_window_below_2, bkf_m_window_below_3, bkf_m_window_below_4, bkf_m_window_below_5, bkf_m_window_below_6]
theorem bkf_m_window_above_0 : (("_window_above" : Str) == "depth") = false := by decide +kernel
theorem bkf_m_window_above_1 : (("_window_above" : Str) == "spills") = false := by decide +kernel
theorem bkf_m_window_above_2 : (("_window_above" : Str) == "fills") = false := by decide +kernel
theorem bkf_m_window_above_3 : (("_window_above" : Str) == "current") = false := by decide +kernel
theorem bkf_m_window_above_4 : (("_window_above" : Str) == "barred") = false := by decide +kernel
theorem bkf_m_window_above_5 : (("_window_above" : Str) == "_globals") = false := by decide +kernel
theorem bkf_m_window_above_6 : (("_window_above" : Str) == "_windows") = false := by decide +kernel
theorem bkf_no__window_above (x0 : Int) (x1 : Int) (x2 : Int) (x3 : Int) (x4 : Int) (x5 : Addr) (x6 : Addr) : (bkf x0 x1 x2 x3 x4 x5 x6).lookup ("_window_above" : Str) = none := by simp [bkf, List.lookup, bkf_m_window_above_0, bkf_m_window_above_1, bkf_m_window_above_2, bkf_m_window_above_3, bkf_m_window_above_4, bkf_m_window_above_5, bkf_m_window_above_6]
theorem bkf_put_depth (x0 : Int) (x1 : Int) (x2 : Int) (x3 : Int) (x4 : Int) (x5 : Addr) (x6 : Addr) (y : Int) : putF "depth" (V.int y) (bkf x0 x1 x2 x3 x4 x5 x6) = bkf y x1 x2 x3 x4 x5 x6 := by simp [putF, bkf, bkf_q1_0, bkf_q2_0, bkf_q3_0, bkf_q4_0, bkf_q5_0, bkf_q6_0]
theorem bkf_put_spills (x0 : Int) (x1 : Int) (x2 : Int) (x3 : Int) (x4 : Int) (x5 : Addr) (x6 : Addr) (y : Int) : putF "spills" (V.int y) (bkf x0 x1 x2 x3 x4 x5 x6) = bkf x0 y x2 x3 x4 x5 x6 := by simp [putF, bkf, bkf_q0_1, bkf_q2_1, bkf_q3_1, bkf_q4_1, bkf_q5_1, bkf_q6_1]
theorem bkf_put_fills (x0 : Int) (x1 : Int) (x2 : Int) (x3 : Int) (x4 : Int) (x5 : Addr) (x6 : Addr) (y : Int) : putF "fills" (V.int y) (bkf x0 x1 x2 x3 x4 x5 x6) = bkf x0 x1 y x3 x4 x5 x6 := by simp [putF, bkf, bkf_q0_2, bkf_q1_2, bkf_q3_2, bkf_q4_2, bkf_q5_2, bkf_q6_2]
theorem bkf_put_current (x0 : Int) (x1 : Int) (x2 : Int) (x3 : Int) (x4 : Int) (x5 : Addr) (x6 : Addr) (y : Int) : putF "current" (V.int y) (bkf x0 x1 x2 x3 x4 x5 x6) = bkf x0 x1 x2 y x4 x5 x6 := by simp [putF, bkf, bkf_q0_3, bkf_q1_3, bkf_q2_3, bkf_q4_3, bkf_q5_3, bkf_q6_3]
theorem bkf_put_barred (x0 : Int) (x1 : Int) (x2 : Int) (x3 : Int) (x4 : Int) (x5 : Addr) (x6 : Addr) (y : Int) : putF "barred" (V.int y) (bkf x0 x1 x2 x3 x4 x5 x6) = bkf x0 x1 x2 x3 y x5 x6 := by simp [putF, bkf, bkf_q0_4, bkf_q1_4, bkf_q2_4, bkf_q3_4, bkf_q5_4, bkf_q6_4]
theorem bkf_put__globals (x0 : Int) (x1 : Int) (x2 : Int) (x3 : Int) (x4 : Int) (x5 : Addr) (x6 : Addr) (y : Addr) : putF "_globals" (V.ref y) (bkf x0 x1 x2 x3 x4 x5 x6) = bkf x0 x1 x2 x3 x4 y x6 := by simp [putF, bkf, bkf_q0_5, bkf_q1_5, bkf_q2_5, bkf_q3_5, bkf_q4_5, bkf_q6_5]
theorem bkf_put__windows (x0 : Int) (x1 : Int) (x2 : Int) (x3 : Int) (x4 : Int) (x5 : Addr) (x6 : Addr) (y : Addr) : putF "_windows" (V.ref y) (bkf x0 x1 x2 x3 x4 x5 x6) = bkf x0 x1 x2 x3 x4 x5 y := by simp [putF, bkf, bkf_q0_6, bkf_q1_6, bkf_q2_6, bkf_q3_6, bkf_q4_6, bkf_q5_6]
theorem bkf_mk (x0 : Int) (x1 : Int) (x2 : Int) (x3 : Int) (x4 : Int) (x5 : Addr) (x6 : Addr) : putF "_windows" (V.ref x6) (putF "_globals" (V.ref x5) (putF "barred" (V.int x4) (putF "current" (V.int x3) (putF "fills" (V.int x2) (putF "spills" (V.int x1) (putF "depth" (V.int x0) [])))))) = bkf x0 x1 x2 x3 x4 x5 x6 := by simp [putF, bkf, bkf_q0_1, bkf_q0_2, bkf_q0_3, bkf_q0_4, bkf_q0_5, bkf_q0_6, bkf_q1_0, bkf_q1_2, bkf_q1_3, bkf_q1_4, bkf_q1_5, bkf_q1_6, bkf_q2_0, bkf_q2_1, bkf_q2_3, bkf_q2_4, bkf_q2_5, bkf_q2_6, bkf_q3_0, bkf_q3_1, bkf_q3_2, bkf_q3_4, bkf_q3_5, bkf_q3_6, bkf_q4_0, bkf_q4_1, bkf_q4_2, bkf_q4_3, bkf_q4_5, bkf_q4_6, bkf_q5_0, bkf_q5_1, bkf_q5_2, bkf_q5_3, bkf_q5_4, bkf_q5_6, bkf_q6_0, bkf_q6_1, bkf_q6_2, bkf_q6_3, bkf_q6_4, bkf_q6_5]
theorem bkf_len1 (x0 : Int) : (putF "depth" (V.int x0) ([])).length < 1000 := by simp [putF, bkf_q0_1, bkf_q0_2, bkf_q0_3, bkf_q0_4, bkf_q0_5, bkf_q0_6, bkf_q1_0, bkf_q1_2, bkf_q1_3, bkf_q1_4, bkf_q1_5, bkf_q1_6, bkf_q2_0, bkf_q2_1, bkf_q2_3, bkf_q2_4, bkf_q2_5, bkf_q2_6, bkf_q3_0, bkf_q3_1, bkf_q3_2, bkf_q3_4, bkf_q3_5, bkf_q3_6, bkf_q4_0, bkf_q4_1, bkf_q4_2, bkf_q4_3, bkf_q4_5, bkf_q4_6, bkf_q5_0, bkf_q5_1, bkf_q5_2, bkf_q5_3, bkf_q5_4, bkf_q5_6, bkf_q6_0, bkf_q6_1, bkf_q6_2, bkf_q6_3, bkf_q6_4, bkf_q6_5]
theorem bkf_len2 (x0 : Int) (x1 : Int) : (putF "spills" (V.int x1) (putF "depth" (V.int x0) ([]))).length < 1000 := by simp [putF, bkf_q0_1, bkf_q0_2, bkf_q0_3, bkf_q0_4, bkf_q0_5, bkf_q0_6, bkf_q1_0, bkf_q1_2, bkf_q1_3, bkf_q1_4, bkf_q1_5, bkf_q1_6, bkf_q2_0, bkf_q2_1, bkf_q2_3, bkf_q2_4, bkf_q2_5, bkf_q2_6, bkf_q3_0, bkf_q3_1, bkf_q3_2, bkf_q3_4, bkf_q3_5, bkf_q3_6, bkf_q4_0, bkf_q4_1, bkf_q4_2, bkf_q4_3, bkf_q4_5, bkf_q4_6, bkf_q5_0, bkf_q5_1, bkf_q5_2, bkf_q5_3, bkf_q5_4, bkf_q5_6, bkf_q6_0, bkf_q6_1, bkf_q6_2, bkf_q6_3, bkf_q6_4, bkf_q6_5]
theorem bkf_len3 (x0 : Int) (x1 : Int) (x2 : Int) : (putF "fills" (V.int x2) (putF "spills" (V.int x1) (putF "depth" (V.int x0) ([])))).length < 1000 := by simp [putF, bkf_q0_1, bkf_q0_2, bkf_q0_3, bkf_q0_4, bkf_q0_5, bkf_q0_6, bkf_q1_0, bkf_q1_2, bkf_q1_3, bkf_q1_4, bkf_q1_5, bkf_q1_6, bkf_q2_0, bkf_q2_1, bkf_q2_3, bkf_q2_4, bkf_q2_5, bkf_q2_6, bkf_q3_0, bkf_q3_1, bkf_q3_2, bkf_q3_4, bkf_q3_5, bkf_q3_6, bkf_q4_0, bkf_q4_1, bkf_q4_2, bkf_q4_3, bkf_q4_5, bkf_q4_6, bkf_q5_0, bkf_q5_1, bkf_q5_2, bkf_q5_3, bkf_q5_4, bkf_q5_6, bkf_q6_0, bkf_q6_1, bkf_q6_2, bkf_q6_3, bkf_q6_4, bkf_q6_5]
theorem bkf_len4 (x0 : Int) (x1 : Int) (x2 : Int) (x3 : Int) : (putF "current" (V.int x3) (putF "fills" (V.int x2) (putF "spills" (V.int x1) (putF "depth" (V.int x0) ([]))))).length < 1000 := by simp [putF, bkf_q0_1, bkf_q0_2, bkf_q0_3, bkf_q0_4, bkf_q0_5, bkf_q0_6, bkf_q1_0, bkf_q1_2, bkf_q1_3, bkf_q1_4, bkf_q1_5, bkf_q1_6, bkf_q2_0, bkf_q2_1, bkf_q2_3, bkf_q2_4, bkf_q2_5, bkf_q2_6, bkf_q3_0, bkf_q3_1, bkf_q3_2, bkf_q3_4, bkf_q3_5, bkf_q3_6, bkf_q4_0, bkf_q4_1, bkf_q4_2, bkf_q4_3, bkf_q4_5, bkf_q4_6, bkf_q5_0, bkf_q5_1, bkf_q5_2, bkf_q5_3, bkf_q5_4, bkf_q5_6, bkf_q6_0, bkf_q6_1, bkf_q6_2, bkf_q6_3, bkf_q6_4, bkf_q6_5]
theorem bkf_len5 (x0 : Int) (x1 : Int) (x2 : Int) (x3 : Int) (x4 : Int) : (putF "barred" (V.int x4) (putF "current" (V.int x3) (putF "fills" (V.int x2) (putF "spills" (V.int x1) (putF "depth" (V.int x0) ([])))))).length < 1000 := by simp [putF, bkf_q0_1, bkf_q0_2, bkf_q0_3, bkf_q0_4, bkf_q0_5, bkf_q0_6, bkf_q1_0, bkf_q1_2, bkf_q1_3, bkf_q1_4, bkf_q1_5, bkf_q1_6, bkf_q2_0, bkf_q2_1, bkf_q2_3, bkf_q2_4, bkf_q2_5, bkf_q2_6, bkf_q3_0, bkf_q3_1, bkf_q3_2, bkf_q3_4, bkf_q3_5, bkf_q3_6, bkf_q4_0, bkf_q4_1, bkf_q4_2, bkf_q4_3, bkf_q4_5, bkf_q4_6, bkf_q5_0, bkf_q5_1, bkf_q5_2, bkf_q5_3, bkf_q5_4, bkf_q5_6, bkf_q6_0, bkf_q6_1, bkf_q6_2, bkf_q6_3, bkf_q6_4, bkf_q6_5]
theorem bkf_len6 (x0 : Int) (x1 : Int) (x2 : Int) (x3 : Int) (x4 : Int) (x5 : Addr) : (putF "_globals" (V.ref x5) (putF "barred" (V.int x4) (putF "current" (V.int x3) (putF "fills" (V.int x2) (putF "spills" (V.int x1) (putF "depth" (V.int x0) ([]))))))).length < 1000 := by simp [putF, bkf_q0_1, bkf_q0_2, bkf_q0_3, bkf_q0_4, bkf_q0_5, bkf_q0_6, bkf_q1_0, bkf_q1_2, bkf_q1_3, bkf_q1_4, bkf_q1_5, bkf_q1_6, bkf_q2_0, bkf_q2_1, bkf_q2_3, bkf_q2_4, bkf_q2_5, bkf_q2_6, bkf_q3_0, bkf_q3_1, bkf_q3_2, bkf_q3_4, bkf_q3_5, bkf_q3_6, bkf_q4_0, bkf_q4_1, bkf_q4_2, bkf_q4_3, bkf_q4_5, bkf_q4_6, bkf_q5_0, bkf_q5_1, bkf_q5_2, bkf_q5_3, bkf_q5_4, bkf_q5_6, bkf_q6_0, bkf_q6_1, bkf_q6_2, bkf_q6_3, bkf_q6_4, bkf_q6_5]

/-! ### banks, in plain terms -/
structure Bk where
  G : List Int
  W : Nat → List Int
  N : Nat
  c : Nat
  bar : Int
  d : Int
  s : Int
  f : Int
namespace Bk
structure ok (B : Bk) : Prop where
  g : B.G.length = 8
  w : ∀ k, (B.W k).length = 16
  n3 : 3 ≤ B.N
  n32 : B.N ≤ 32
  cn : B.c < B.N
def lo (B : Bk) : Nat := if B.c = 0 then B.N - 1 else B.c - 1
def hi (B : Bk) : Nat := if B.c + 1 = B.N then 0 else B.c + 1
def rowOf (B : Bk) (j : Nat) : Nat := if j < 16 then B.lo else B.c
def ofs (j : Nat) : Nat := if j < 16 then j else j - 16
def rd (B : Bk) (j : Nat) : Int := if j < 8 then B.G.getD j 0 else (B.W (B.rowOf j)).getD (ofs j) 0
def wr (B : Bk) (j : Nat) (x : Int) : Bk := if j = 0 then B else if j < 8 then { B with G := B.G.set j x } else { B with W := upF B.W (B.rowOf j) ((B.W (B.rowOf j)).set (ofs j) x) }
def zero (n : Nat) : Bk := ⟨List.replicate 8 0, fun _ => List.replicate 16 0, n, 0, 1, 0, 0, 0⟩
def gd (B : Bk) : Bk := { B with c := B.lo, d := B.d + 1 }
def up (B : Bk) : Bk := { B with c := B.hi, d := B.d - 1 }
def zp (i n : Nat) (xs : List Int) : List Int := xs.take i ++ (List.replicate n 0 ++ xs.drop (i + n))
def clr (B : Bk) (k : Nat) : Bk := { B with W := upF (upF B.W B.lo (zp 8 (min k 8) (B.W B.lo))) B.c (zp 0 (k - 8) (B.W B.c)) }
def dn (B : Bk) : Bk := if B.gd.bar = -1 then B.gd else B.gd.clr 16
def sb (B : Bk) (n : Int) : Bk := { B with bar := n }
def bt (B : Bk) (x : Int) : Bk := B.gd.wr 17 x
def td (B : Bk) (x : Int) : Bk := bt { B with s := B.s + 1 } x
def tu (B : Bk) (x : Int) : Bk := bt { B with f := B.f + 1 } x
variable {B : Bk}
theorem ok.lo (h : B.ok) : B.lo < B.N := by have := h.n3; have := h.cn; unfold Bk.lo; split <;> omega
theorem ok.hi (h : B.ok) : B.hi < B.N := by have := h.n3; have := h.cn; unfold Bk.hi; split <;> omega
theorem ok.lc (h : B.ok) : B.lo ≠ B.c := by have := h.n3; have := h.cn; unfold Bk.lo; split <;> omega
theorem ok.row (h : B.ok) (j : Nat) : B.rowOf j < B.N := by
  unfold rowOf; split
  · exact h.lo
  · exact h.cn
theorem ofs_lt {j : Nat} (h : j < 32) : ofs j < 16 := by unfold ofs; split <;> omega
theorem lo_int (h : B.ok) : ((B.c : Int) - 1) % (B.N : Int) = (B.lo : Int) := by
  have := h.n3; have := h.cn
  unfold Bk.lo
  split
  · rename_i e
    rw [e, show ((0 : Nat) : Int) - 1 = -1 from rfl, ← Int.add_mul_emod_self_left (-1) (B.N : Int) 1, Int.emod_eq_of_lt (by omega) (by omega)]
    omega
  · rw [Int.emod_eq_of_lt (by omega) (by omega)]; omega
theorem lo_int2 (h : B.ok) : ((B.c : Int) + (B.N : Int) + -1) % (B.N : Int) = (B.lo : Int) := by
  rw [← lo_int h, show (B.c : Int) + (B.N : Int) + -1 = ((B.c : Int) - 1) + (B.N : Int) * 1 by omega, Int.add_mul_emod_self_left]
theorem hi_int (h : B.ok) : ((B.c : Int) + 1) % (B.N : Int) = (B.hi : Int) := by
  have := h.n3; have := h.cn
  unfold Bk.hi
  split
  · rename_i e
    rw [show (B.c : Int) + 1 = (B.N : Int) by omega, Int.emod_self]; rfl
  · rw [Int.emod_eq_of_lt (by omega) (by omega)]; omega
theorem hi_int2 (h : B.ok) : ((B.c : Int) + (B.N : Int) + 1) % (B.N : Int) = (B.hi : Int) := by
  rw [← hi_int h, show (B.c : Int) + (B.N : Int) + 1 = ((B.c : Int) + 1) + (B.N : Int) * 1 by omega, Int.add_mul_emod_self_left]
theorem zp_len {i n : Nat} {xs : List Int} (h : i + n ≤ xs.length) : (zp i n xs).length = xs.length := by simp [zp]; omega
theorem zp0 {i : Nat} {xs : List Int} : zp i 0 xs = xs := by simp [zp]
theorem zp_set {i n : Nat} {xs : List Int} (h : i + n < xs.length) : (zp i n xs).set (i + n) 0 = zp i (n + 1) xs := by
  unfold zp
  have e1 : (xs.take i).length = i := by rw [List.length_take]; omega
  rw [List.set_append_right _ _ (by rw [e1]; omega), e1, List.set_append_right _ _ (by simp), List.length_replicate, show i + n - i - n = 0 by omega, List.drop_eq_getElem_cons h, List.set_cons_zero, List.replicate_succ', List.append_assoc]
  rfl
theorem zero_ok {n : Nat} (h1 : 3 ≤ n) (h2 : n ≤ 32) : (zero n).ok := ⟨rfl, fun _ => rfl, h1, h2, by show 0 < n; omega⟩
theorem upF_len {f : Nat → List Int} {k : Nat} {y : List Int} (h : ∀ k, (f k).length = 16) (hy : y.length = 16) : ∀ j, (upF f k y j).length = 16 := fun j => by
  unfold upF; split
  · exact hy
  · exact h j
theorem ok.gd (h : B.ok) : B.gd.ok := ⟨h.g, h.w, h.n3, h.n32, h.lo⟩
theorem ok.up (h : B.ok) : B.up.ok := ⟨h.g, h.w, h.n3, h.n32, h.hi⟩
theorem ok.sb (h : B.ok) (n : Int) : (B.sb n).ok := ⟨h.g, h.w, h.n3, h.n32, h.cn⟩
theorem ok.wr (h : B.ok) (j : Nat) (x : Int) : (B.wr j x).ok := by
  unfold Bk.wr
  split
  · exact h
  split
  · exact ⟨by simp [h.g], h.w, h.n3, h.n32, h.cn⟩
  · exact ⟨h.g, upF_len h.w (by simp [h.w]), h.n3, h.n32, h.cn⟩
theorem ok.clr (h : B.ok) {k : Nat} (hk : k ≤ 16) : (B.clr k).ok := ⟨h.g, upF_len (upF_len h.w (by rw [zp_len (by rw [h.w]; omega)]; exact h.w _)) (by rw [zp_len (by rw [h.w]; omega)]; exact h.w _), h.n3, h.n32, h.cn⟩
theorem ok.dn (h : B.ok) : B.dn.ok := by
  unfold Bk.dn
  split
  · exact h.gd
  · exact h.gd.clr (by decide)
theorem ok.td (h : B.ok) (x : Int) : (B.td x).ok := ok.wr (ok.gd (B := { B with s := B.s + 1 }) ⟨h.g, h.w, h.n3, h.n32, h.cn⟩) 17 x
theorem ok.tu (h : B.ok) (x : Int) : (B.tu x).ok := ok.wr (ok.gd (B := { B with f := B.f + 1 }) ⟨h.g, h.w, h.n3, h.n32, h.cn⟩) 17 x
theorem wr_N (j : Nat) (x : Int) : (B.wr j x).N = B.N := by
  unfold Bk.wr
  repeat' split
  all_goals rfl
theorem clr0 : B.clr 0 = B := by
  unfold Bk.clr
  have e : upF (upF B.W B.lo (zp 8 (min 0 8) (B.W B.lo))) B.c (zp 0 (0 - 8) (B.W B.c)) = B.W := by
    funext j
    rw [show min 0 8 = 0 from rfl, show 0 - 8 = 0 from rfl, zp0, zp0]
    unfold upF
    split
    · rename_i e; rw [e]
    split
    · rename_i e; rw [e]
    · rfl
  rw [e]
theorem upF_upF {f : Nat → List Int} {k : Nat} {x y : List Int} : upF (upF f k x) k y = upF f k y := by
  funext j; unfold upF; split <;> rfl
theorem upF_comm {f : Nat → List Int} {k l : Nat} {x y : List Int} (h : k ≠ l) : upF (upF f k x) l y = upF (upF f l y) k x := by
  funext j; unfold upF
  by_cases a : j = k
  · subst a; rw [if_neg h, if_pos rfl, if_pos rfl]
  · rw [if_neg a]; by_cases b : j = l
    · simp [a, b, Ne.symm h]
    · simp [a, b, Ne.symm h]
theorem clr_wr (h : B.ok) {k : Nat} (hk : k < 16) : (B.clr k).wr (8 + k) 0 = B.clr (k + 1) := by
  have hlc := h.lc
  unfold Bk.wr
  rw [if_neg (by omega), if_neg (by omega)]
  by_cases c : k < 8
  · have er : (B.clr k).rowOf (8 + k) = B.lo := if_pos (by omega)
    rw [er, show ofs (8 + k) = 8 + k from if_pos (by omega)]
    unfold Bk.clr
    dsimp only
    rw [upF_ne hlc, upF_same, show min k 8 = k by omega, show min (k + 1) 8 = k + 1 by omega, show k - 8 = 0 by omega, show k + 1 - 8 = 0 by omega, zp_set (by rw [h.w]; omega), upF_comm (Ne.symm hlc), upF_upF]
  · have er : (B.clr k).rowOf (8 + k) = B.c := if_neg (by omega)
    obtain ⟨m, rfl⟩ : ∃ m, k = 8 + m := ⟨k - 8, by omega⟩
    rw [er, show ofs (8 + (8 + m)) = 0 + m from (if_neg (by omega)).trans (by omega)]
    unfold Bk.clr
    dsimp only
    rw [upF_same, show min (8 + m) 8 = 8 by omega, show min (8 + m + 1) 8 = 8 by omega, show 8 + m - 8 = m by omega, show 8 + m + 1 - 8 = m + 1 by omega, zp_set (by rw [h.w]; omega), upF_upF]
end Bk
/-! ### the class -/
structure BWx (C : Addr) (τ : Tg) (i : Nat) (H : Hp) (t dx gl wn : Addr) (wr : Nat → Addr) (B : Bk) : Prop where
  ob : At τ H t (.ins C dx (bkf B.d B.s B.f B.c B.bar gl wn)) (i, 0, 0)
  g : At τ H gl (.lst (B.G.map V.int)) (i, 1, 0)
  w : At τ H wn (.lst ((List.range B.N).map fun k => V.ref (wr k))) (i, 2, 0)
  r : ∀ k, k < B.N → At τ H (wr k) (.lst ((B.W k).map V.int)) (i, 3, k)
def BW (C : Addr) (τ : Tg) (i : Nat) (H : Hp) (t : Addr) (B : Bk) : Prop := ∃ dx gl wn wr, BWx C τ i H t dx gl wn wr B
theorem BW.st {C : Addr} {τ τ' : Tg} {i : Nat} {H H' : Hp} {t : Addr} {B : Bk} {S : List Nat} (h : BW C τ i H t B) (s : Stp τ τ' S H H') (n : i ∉ S) : BW C τ' i H' t B := by
  obtain ⟨dx, gl, wn, wr, x⟩ := h
  exact ⟨dx, gl, wn, wr, x.ob.st s n, x.g.st s n, x.w.st s n, fun k hk => (x.r k hk).st s n⟩
/-- a field is set -/
theorem BWx.fld {C : Addr} {τ : Tg} {i : Nat} {H : Hp} {t dx gl wn : Addr} {wr : Nat → Addr} {B B' : Bk} (h : BWx C τ i H t dx gl wn wr B) (eG : B'.G = B.G) (eW : B'.W = B.W) (eN : B'.N = B.N) :
    BWx C τ i (upd H t (.ins C dx (bkf B'.d B'.s B'.f B'.c B'.bar gl wn))) t dx gl wn wr B' := by
  refine ⟨.set h.ob.2, ?_, ?_, fun k hk => ?_⟩
  · rw [eG]; exact h.g.put h.ob.2 (by simp)
  · rw [eN]; exact h.w.put h.ob.2 (by simp)
  · rw [eN] at hk; rw [eW]; exact (h.r k hk).put h.ob.2 (by simp)
/-- a row is set -/
theorem BWx.row {C : Addr} {τ : Tg} {i : Nat} {H : Hp} {t dx gl wn : Addr} {wr : Nat → Addr} {B : Bk} (h : BWx C τ i H t dx gl wn wr B) {k : Nat} (hk : k < B.N) (y : List Int) :
    BWx C τ i (upd H (wr k) (.lst (y.map V.int))) t dx gl wn wr { B with W := upF B.W k y } := by
  have hx := h.r k hk
  refine ⟨h.ob.put hx.2 (by simp), h.g.put hx.2 (by simp), h.w.put hx.2 (by simp), fun l hl => ?_⟩
  show At _ _ _ (.lst ((upF B.W k y l).map V.int)) _
  by_cases c : l = k
  · subst c; rw [upF_same]; exact .set hx.2
  · rw [upF_ne c]; exact (h.r l hl).put hx.2 (by simp [c])
theorem BWx.glb {C : Addr} {τ : Tg} {i : Nat} {H : Hp} {t dx gl wn : Addr} {wr : Nat → Addr} {B : Bk} (h : BWx C τ i H t dx gl wn wr B) (y : List Int) :
    BWx C τ i (upd H gl (.lst (y.map V.int))) t dx gl wn wr { B with G := y } :=
  ⟨h.ob.put h.g.2 (by simp), .set h.g.2, h.w.put h.g.2 (by simp), fun k hk => (h.r k hk).put h.g.2 (by simp)⟩
def spBI (C : Addr) : Sp := fun vs H Q _ => ∃ (τ : Tg) (i : Nat) (t dx : Addr) (n : Nat), vs = [.ref t, .int n] ∧ 3 ≤ n ∧ n ≤ 32 ∧ At τ H t (.ins C dx []) (i, 0, 0) ∧ ∀ τ' H', BW C τ' i H' t (.zero n) → Stp τ τ' [i] H H' → Q .non H'
/-- a method that gives a value -/
def spBV (C : Addr) (val : Bk → V) : Sp := fun vs H Q _ => ∃ (τ : Tg) (i : Nat) (t : Addr) (B : Bk), vs = [.ref t] ∧ BW C τ i H t B ∧ B.ok ∧ Q (val B) H
def spBR (C : Addr) : Sp := fun vs H Q _ => ∃ (τ : Tg) (i : Nat) (t : Addr) (B : Bk) (j : Nat), vs = [.ref t, .int j] ∧ BW C τ i H t B ∧ B.ok ∧ j < 32 ∧ Q (.int (B.rd j)) H
def spBWr (C : Addr) : Sp := fun vs H Q _ => ∃ (τ : Tg) (i : Nat) (t : Addr) (B : Bk) (j : Nat) (x : Int), vs = [.ref t, .int j, .int x] ∧ BW C τ i H t B ∧ B.ok ∧ j < 32 ∧ ∀ H', BW C τ i H' t (B.wr j x) → Stp τ τ [i] H H' → Q .non H'
/-- a method that changes the banks -/
def spBC (C : Addr) (f : Bk → Bk) (val : Bk → V) : Sp := fun vs H Q _ => ∃ (τ : Tg) (i : Nat) (t : Addr) (B : Bk), vs = [.ref t] ∧ BW C τ i H t B ∧ B.ok ∧ ∀ H', BW C τ i H' t (f B) → Stp τ τ [i] H H' → Q (val B) H'
def spBA (C : Addr) (f : Bk → Int → Bk) : Sp := fun vs H Q _ => ∃ (τ : Tg) (i : Nat) (t : Addr) (B : Bk) (x : Int), vs = [.ref t, .int x] ∧ BW C τ i H t B ∧ B.ok ∧ ∀ H', BW C τ i H' t (f B x) → Stp τ τ [i] H H' → Q .non H'

section
variable {P : Program} {w : World} {K : PySem.W.Frag} {mg : Str → Option Value} {base : Heap} {a : Ad}
theorem ok_Banks__window_below (T : Txt w K mg a) : FnOk P w K mg base CX0 1 a.f_Banks__window_below a.d_Banks__window_below ["self"] (spBV a.C_Banks fun B => .int B.lo) := by
  refine T.F_Banks__window_below.ok sc_Banks__window_below (fun vs H Q E h => ?_) (fun cdv A outer s H vs Q E hr h => ?_)
  · obtain ⟨_, _, _, _, rfl, _⟩ := h; rfl
  · obtain ⟨τ, i, t, B, rfl, ⟨dx, gl, wn, wr, W⟩, ho, q⟩ := h
    refine ⟨_, (pss_one (ps_ret (pe_op op_mod (pe_op op_sub (pe_fld (pv 0) rfl) pe_int) (pe_callB call_len_seq (by rfl) T.b_len (by decide +kernel) (pa_cons (pe_fld (pv 0) rfl) pa_nil))))), ?_⟩
    have := ho.n3
    refine ⟨_, rfl, t, a.C_Banks, dx, _, _, rfl, W.ob.1, T.cl_Banks, T.n_Banks_current, bkf_current _ _ _ _ _ _ _, _, _, rfl, rfl, _, rfl, t, a.C_Banks, dx, _, _, rfl, W.ob.1, T.cl_Banks, T.n_Banks__windows, bkf__windows _ _ _ _ _ _ _, _, _, rfl, .inl (SqL.of W.w.1), _, _, rfl, rfl, (by rw [rng_len]; omega), ?_⟩
    rw [rng_len]
    show Q (V.int (((B.c : Int) - 1) % (B.N : Int))) H
    rw [Bk.lo_int ho]
    exact q
theorem ok_Banks__window_above (T : Txt w K mg a) : FnOk P w K mg base CX0 1 a.f_Banks__window_above a.d_Banks__window_above ["self"] (spBV a.C_Banks fun B => .int B.hi) := by
  refine T.F_Banks__window_above.ok sc_Banks__window_above (fun vs H Q E h => ?_) (fun cdv A outer s H vs Q E hr h => ?_)
  · obtain ⟨_, _, _, _, rfl, _⟩ := h; rfl
  · obtain ⟨τ, i, t, B, rfl, ⟨dx, gl, wn, wr, W⟩, ho, q⟩ := h
    refine ⟨_, (pss_one (ps_ret (pe_op op_mod (pe_op op_add (pe_fld (pv 0) rfl) pe_int) (pe_callB call_len_seq (by rfl) T.b_len (by decide +kernel) (pa_cons (pe_fld (pv 0) rfl) pa_nil))))), ?_⟩
    have := ho.n3
    refine ⟨_, rfl, t, a.C_Banks, dx, _, _, rfl, W.ob.1, T.cl_Banks, T.n_Banks_current, bkf_current _ _ _ _ _ _ _, _, _, rfl, rfl, _, rfl, t, a.C_Banks, dx, _, _, rfl, W.ob.1, T.cl_Banks, T.n_Banks__windows, bkf__windows _ _ _ _ _ _ _, _, _, rfl, .inl (SqL.of W.w.1), _, _, rfl, rfl, (by rw [rng_len]; omega), ?_⟩
    rw [rng_len]
    show Q (V.int (((B.c : Int) + 1) % (B.N : Int))) H
    rw [Bk.hi_int ho]
    exact q
theorem ok_Banks___init__ (T : Txt w K mg a) : FnOk P w K mg base CX0 1 a.f_Banks___init__ a.d_Banks___init__ ["self", "windows"] (spBI a.C_Banks) := by
  refine T.F_Banks___init__.ok sc_Banks___init__ (fun vs H Q E h => ?_) (fun cdv A outer s H vs Q E hr h => ?_)
  · obtain ⟨_, _, _, _, _, rfl, _⟩ := h; rfl
  · obtain ⟨τ, i, t, dx, n, rfl, n3, n32, ht, q⟩ := h
    have mt : (τ t).1 ∈ [i] := mem1 ht.2 rfl
    refine ⟨_, (pss_cons (ps_fld (pv 0) pe_int rfl)
      (pss_cons (ps_fld (pv 0) pe_int rfl)
      (pss_cons (ps_fld (pv 0) pe_int rfl)
      (pss_cons (ps_fld (pv 0) pe_int rfl)
      (pss_cons (ps_fld (pv 0) pe_int rfl)
      (pss_cons (ps_fld (pv 0) (pe_op op_rep (pe_lst (pa_cons pe_int pa_nil)) pe_int) rfl)
      (pss_one (ps_fld (pv 0) (pe_lc (own := [("_", 2)]) (g := gName 2) rfl sc_Banks___init__.nd (pi_range1 rfl T.b_range (pa_cons (pv 1) pa_nil)) (blkOk_by (own := [("_", 2)]) (N := ["self", "windows", "_"]) (sc := defScope s_Banks___init__) (by decide +kernel)) (fun _ _ _ _ _ => pg_name (i := 2) sc_Banks___init__.nd rfl (Or.inl rfl)) (fun _ _ _ _ _ => pts_nil) (fun _ _ _ _ _ => (pe_op op_rep (pe_lst (pa_cons pe_int pa_nil)) pe_int))) rfl)))))))), ?_⟩
    refine ⟨_, rfl, t, a.C_Banks, dx, _, rfl, ht.1, T.cl_Banks, T.n_Banks_depth, (by show 0 < 1000; decide), ?_⟩
    refine ⟨_, rfl, t, a.C_Banks, dx, _, rfl, upd_same, T.cl_Banks, T.n_Banks_spills, bkf_len1 _, ?_⟩
    refine ⟨_, rfl, t, a.C_Banks, dx, _, rfl, upd_same, T.cl_Banks, T.n_Banks_fills, bkf_len2 _ _, ?_⟩
    refine ⟨_, rfl, t, a.C_Banks, dx, _, rfl, upd_same, T.cl_Banks, T.n_Banks_current, bkf_len3 _ _ _, ?_⟩
    refine ⟨_, rfl, t, a.C_Banks, dx, _, rfl, upd_same, T.cl_Banks, T.n_Banks_barred, bkf_len4 _ _ _ _, ?_⟩
    have S1 := ((((Stp.refl (τ := τ) (S := [i]) (H := H)).put (o := .ins a.C_Banks dx (putF "depth" (.int 0) [])) mt).put (o := .ins a.C_Banks dx (putF "spills" (.int 0) (putF "depth" (.int 0) []))) mt).put (o := .ins a.C_Banks dx (putF "fills" (.int 0) (putF "spills" (.int 0) (putF "depth" (.int 0) [])))) mt).put (o := .ins a.C_Banks dx (putF "current" (.int 0) (putF "fills" (.int 0) (putF "spills" (.int 0) (putF "depth" (.int 0) []))))) mt |>.put (o := .ins a.C_Banks dx (putF "barred" (.int 1) (putF "current" (.int 0) (putF "fills" (.int 0) (putF "spills" (.int 0) (putF "depth" (.int 0) [])))))) mt
    have ht1 : At τ _ t _ _ := At.set (H := upd (upd (upd (upd H t (.ins a.C_Banks dx (putF "depth" (.int 0) []))) t (.ins a.C_Banks dx (putF "spills" (.int 0) (putF "depth" (.int 0) [])))) t (.ins a.C_Banks dx (putF "fills" (.int 0) (putF "spills" (.int 0) (putF "depth" (.int 0) []))))) t (.ins a.C_Banks dx (putF "current" (.int 0) (putF "fills" (.int 0) (putF "spills" (.int 0) (putF "depth" (.int 0) [])))))) (o := .ins a.C_Banks dx (putF "barred" (.int 1) (putF "current" (.int 0) (putF "fills" (.int 0) (putF "spills" (.int 0) (putF "depth" (.int 0) [])))))) ht.2
    generalize upd (upd (upd (upd (upd H t (.ins a.C_Banks dx (putF "depth" (.int 0) []))) t (.ins a.C_Banks dx (putF "spills" (.int 0) (putF "depth" (.int 0) [])))) t (.ins a.C_Banks dx (putF "fills" (.int 0) (putF "spills" (.int 0) (putF "depth" (.int 0) []))))) t (.ins a.C_Banks dx (putF "current" (.int 0) (putF "fills" (.int 0) (putF "spills" (.int 0) (putF "depth" (.int 0) [])))))) t (.ins a.C_Banks dx (putF "barred" (.int 1) (putF "current" (.int 0) (putF "fills" (.int 0) (putF "spills" (.int 0) (putF "depth" (.int 0) [])))))) = H1 at S1 ht1 ⊢
    -- the globals
    refine ⟨(by show 1 ≤ sizeLine; decide), fun b1 m1 => ⟨_, _, _, rfl, rfl, upd_same, by decide, by decide, (by show 1 * 8 ≤ sizeLine; decide), fun gl ng => ?_⟩⟩
    rw [show (List.replicate (8 : Int).toNat [V.int 0]).flatten = (List.replicate 8 (0 : Int)).map V.int from rep_int 8]
    have s1 := sN (Same.refl H1) m1 (o := .lst [V.int 0])
    have S2 := (S1.tr (Stp.same s1)).new ng (o := .lst ((List.replicate 8 (0 : Int)).map V.int)) (x := (i, 1, 0))
    have ht2 := (ht1.same s1).new ng (u := .lst ((List.replicate 8 (0 : Int)).map V.int)) (y := (i, 1, 0))
    have ag : At (tgN τ gl (i, 1, 0)) (upd (upd H1 b1 (.lst [V.int 0])) gl (.lst ((List.replicate 8 (0 : Int)).map V.int))) gl _ _ := At.mk
    generalize upd (upd H1 b1 (.lst [V.int 0])) gl (.lst ((List.replicate 8 (0 : Int)).map V.int)) = H2 at S2 ht2 ag ⊢
    generalize tgN τ gl (i, 1, 0) = τ2 at S2 ht2 ag
    clear S1 ht1 s1
    refine ⟨_, rfl, t, a.C_Banks, dx, _, rfl, ht2.1, T.cl_Banks, T.n_Banks__globals, bkf_len5 _ _ _ _ _, ?_⟩
    have S3 := S2.put (o := .ins a.C_Banks dx (putF "_globals" (.ref gl) (putF "barred" (.int 1) (putF "current" (.int 0) (putF "fills" (.int 0) (putF "spills" (.int 0) (putF "depth" (.int 0) []))))))) (mem1 ht2.2 rfl)
    have ht3 : At τ2 _ t _ _ := At.set (H := H2) (o := .ins a.C_Banks dx (putF "_globals" (.ref gl) (putF "barred" (.int 1) (putF "current" (.int 0) (putF "fills" (.int 0) (putF "spills" (.int 0) (putF "depth" (.int 0) []))))))) ht2.2
    have ag := ag.put ht2.2 (u := .ins a.C_Banks dx (putF "_globals" (.ref gl) (putF "barred" (.int 1) (putF "current" (.int 0) (putF "fills" (.int 0) (putF "spills" (.int 0) (putF "depth" (.int 0) []))))))) (by simp)
    generalize upd H2 t (.ins a.C_Banks dx (putF "_globals" (.ref gl) (putF "barred" (.int 1) (putF "current" (.int 0) (putF "fills" (.int 0) (putF "spills" (.int 0) (putF "depth" (.int 0) []))))))) = H3 at S3 ht3 ag ⊢
    clear S2 ht2
    -- the windows
    refine ⟨_, rfl, _, rfl, by omega, by omega, fun D nD => ?_⟩
    have S4 := S3.new nD (o := .lst []) (x := (i, 2, 0))
    have ht4 := ht3.new nD (u := .lst []) (y := (i, 2, 0))
    have ag4 := ag.new nD (u := .lst []) (y := (i, 2, 0))
    have aD : At (tgN τ2 D (i, 2, 0)) (upd H3 D (.lst [])) D _ _ := At.mk
    refine lc_range (lo := 0) (n := (n : Int).toNat) (fun k H' => ∃ τ' wr, Stp τ τ' [i] H H' ∧ At τ' H' t (.ins a.C_Banks dx (putF "_globals" (.ref gl) (putF "barred" (.int 1) (putF "current" (.int 0) (putF "fills" (.int 0) (putF "spills" (.int 0) (putF "depth" (.int 0) []))))))) (i, 0, 0) ∧
      At τ' H' gl (.lst ((List.replicate 8 (0 : Int)).map V.int)) (i, 1, 0) ∧ At τ' H' D (.lst ((List.range k).map fun j => V.ref (wr j))) (i, 2, 0) ∧ ∀ j, j < k → At τ' H' (wr j) (.lst ((List.replicate 16 (0 : Int)).map V.int)) (i, 3, j))
      ⟨_, fun _ => 0, S4, ht4, ag4, aD, fun j hj => absurd hj (Nat.not_lt_zero j)⟩ ?_ ?_
    · clear S4 ht4 ag4 aD S3 ht3 ag
      rintro k H4 hk ⟨τ', wr, S4, ht4, ag, aD, ar⟩
      refine ⟨rfl, (by show 1 ≤ sizeLine; decide), fun b1 m1 => ⟨_, _, _, rfl, rfl, upd_same, by decide, by decide, (by show 1 * 16 ≤ sizeLine; decide), fun p np => ?_⟩⟩
      rw [show (List.replicate (16 : Int).toNat [V.int 0]).flatten = (List.replicate 16 (0 : Int)).map V.int from rep_int 16]
      have s1 := sN (Same.refl H4) m1 (o := .lst [V.int 0])
      have S5 := (S4.tr (Stp.same s1)).new np (o := .lst ((List.replicate 16 (0 : Int)).map V.int)) (x := (i, 3, k))
      have ht5 := (ht4.same s1).new np (u := .lst ((List.replicate 16 (0 : Int)).map V.int)) (y := (i, 3, k))
      have ag5 := (ag.same s1).new np (u := .lst ((List.replicate 16 (0 : Int)).map V.int)) (y := (i, 3, k))
      have aD5 := (aD.same s1).new np (u := .lst ((List.replicate 16 (0 : Int)).map V.int)) (y := (i, 3, k))
      have ar5 := fun j hj => ((ar j hj).same s1).new np (u := .lst ((List.replicate 16 (0 : Int)).map V.int)) (y := (i, 3, k))
      have ap : At (tgN τ' p (i, 3, k)) (upd (upd H4 b1 (.lst [V.int 0])) p (.lst ((List.replicate 16 (0 : Int)).map V.int))) p _ _ := At.mk
      refine ⟨_, aD5.1, sz (by rw [rng_len]; omega), tgN τ' p (i, 3, k), upA wr k p, S5.put (mem1 aD5.2 rfl), ht5.put aD5.2 (by simp), ag5.put aD5.2 (by simp), ?_, fun j hj => ?_⟩
      · rw [← rng_app]
        exact .set aD5.2
      · by_cases e : j = k
        · subst e
          rw [upA_same]
          exact ap.put aD5.2 (by simp)
        · rw [upA_ne e]
          exact (ar5 j (by omega)).put aD5.2 (by simp)
    · clear S4 ht4 ag4 aD S3 ht3 ag
      rintro H5 ⟨τ', wr, S5, ht5, ag, aD, ar⟩
      have en : (n : Int).toNat = n := Int.toNat_natCast n
      rw [en] at aD ar
      refine ⟨_, rfl, t, a.C_Banks, dx, _, rfl, ht5.1, T.cl_Banks, T.n_Banks__windows, bkf_len6 _ _ _ _ _ _, ?_⟩
      refine q _ _ ⟨dx, gl, D, wr, ?_, ag.put ht5.2 (by simp), aD.put ht5.2 (by simp), fun k hk => (ar k hk).put ht5.2 (by simp)⟩ (S5.put (mem1 ht5.2 rfl))
      exact ⟨by rw [upd_same]; exact congrArg (fun z => some (HO.ins _ dx z)) (bkf_mk 0 0 0 0 1 gl D), ht5.2⟩
theorem ok_Banks_read (T : Txt w K mg a) : FnOk P w K mg base CX0 2 a.f_Banks_read a.d_Banks_read ["self", "number"] (spBR a.C_Banks) := by
  have G_Banks__window_below : FnOk P w K mg base CX0 1 _ _ _ _ := ok_Banks__window_below T
  refine T.F_Banks_read.ok sc_Banks_read (fun vs H Q E h => ?_) (fun cdv A outer s H vs Q E hr h => ?_)
  · obtain ⟨_, _, _, _, _, rfl, _⟩ := h; rfl
  · obtain ⟨τ, i, t, B, j, rfl, W0, ho, hj, q⟩ := h
    have W0' := W0
    obtain ⟨dx, gl, wn, wr, W⟩ := W0'
    refine ⟨_, (pss_cons (ps_if (pt_cmpR op_lt (pv 1) pe_int (nomark _)) (pss_one (ps_ret (pe_ix ix_list (pe_fld (pv 0) rfl) (pv 1) (fun _ _ => rfl)))) pss_nil)
      (pss_cons (ps_if (pt_cmpR op_lt (pv 1) pe_int (nomark _)) (pss_one (ps_ret (pe_ix ix_list (pe_ix ix_list (pe_fld (pv 0) rfl) (pe_meth0 (pv 0) T.cl_Banks T.m_Banks__window_below G_Banks__window_below (hr.mono (by decide)) T.bd_Banks__window_below .nil pass0) (fun _ _ => rfl)) (pv 1) (fun _ _ => rfl)))) pss_nil)
      (pss_one (ps_ret (pe_ix ix_list (pe_ix ix_list (pe_fld (pv 0) rfl) (pe_fld (pv 0) rfl) (fun _ _ => rfl)) (pe_op op_sub (pv 1) pe_int) (fun _ _ => rfl)))))), ?_⟩
    unfold Bk.rd Bk.rowOf Bk.ofs at q
    refine ⟨_, rfl, _, _, rfl, rfl, _, rfl, ite3 (fun e => ?_) (fun e => ?_)⟩
    · have c1 : j < 8 := by have := of_decide_eq_true e; omega
      rw [if_pos c1] at q
      exact ⟨_, rfl, t, a.C_Banks, dx, _, _, rfl, W.ob.1, T.cl_Banks, T.n_Banks__globals, bkf__globals _ _ _ _ _ _ _, _, rfl, _, _, _, _, rfl, rfl, SqL.of W.g.1, atI_nat (at_map (by rw [ho.g]; exact c1)), q⟩
    have c1 : ¬ j < 8 := by have := of_decide_eq_false e; omega
    rw [if_neg c1] at q
    refine ⟨_, rfl, _, _, rfl, rfl, _, rfl, ite3 (fun e => ?_) (fun e => ?_)⟩
    · have c2 : j < 16 := by have := of_decide_eq_true e; omega
      rw [if_pos c2, if_pos c2] at q
      exact ⟨_, rfl, t, a.C_Banks, dx, _, _, rfl, W.ob.1, T.cl_Banks, T.n_Banks__windows, bkf__windows _ _ _ _ _ _ _, _, rfl, t, dx, _, rfl, W.ob.1, bkf_no__window_below _ _ _ _ _ _ _, τ, i, t, B, rfl, W0, ho, _, _, _, _, rfl, rfl, SqL.of W.w.1, atI_nat (rng_at ho.lo), _, rfl, _, _, _, _, rfl, rfl, SqL.of (W.r _ ho.lo).1, atI_nat (at_map (by rw [ho.w]; omega)), q⟩
    have c2 : ¬ j < 16 := by have := of_decide_eq_false e; omega
    rw [if_neg c2, if_neg c2] at q
    refine ⟨_, rfl, t, a.C_Banks, dx, _, _, rfl, W.ob.1, T.cl_Banks, T.n_Banks__windows, bkf__windows _ _ _ _ _ _ _, _, rfl, t, a.C_Banks, dx, _, _, rfl, W.ob.1, T.cl_Banks, T.n_Banks_current, bkf_current _ _ _ _ _ _ _, _, _, _, _, rfl, rfl, SqL.of W.w.1, atI_nat (rng_at ho.cn), _, rfl, _, _, rfl, rfl, ?_⟩
    have e2 : (j : Int) - 16 = ((j - 16 : Nat) : Int) := by omega
    exact ⟨_, _, _, _, rfl, rfl, SqL.of (W.r _ ho.cn).1, by rw [e2]; exact atI_nat (at_map (by rw [ho.w]; omega)), q⟩
theorem ok_Banks_write (T : Txt w K mg a) : FnOk P w K mg base CX0 2 a.f_Banks_write a.d_Banks_write ["self", "number", "word"] (spBWr a.C_Banks) := by
  have G_Banks__window_below : FnOk P w K mg base CX0 1 _ _ _ _ := ok_Banks__window_below T
  refine T.F_Banks_write.ok sc_Banks_write (fun vs H Q E h => ?_) (fun cdv A outer s H vs Q E hr h => ?_)
  · obtain ⟨_, _, _, _, _, _, rfl, _⟩ := h; rfl
  · obtain ⟨τ, i, t, B, j, x, rfl, W0, ho, hj, q⟩ := h
    have W0' := W0
    obtain ⟨dx, gl, wn, wr, W⟩ := W0'
    refine ⟨_, (pss_one (ps_if (pt_cmpR op_ge (pv 1) pe_int (nomark _)) (pss_one (ps_asg (pv 2) (pg_sub (pe_ix ix_list (pe_fld (pv 0) rfl) (pe_fld (pv 0) rfl) (fun _ _ => rfl)) (pe_op op_sub (pv 1) pe_int) set_list))) (pss_one (ps_if (pt_cmpR op_ge (pv 1) pe_int (nomark _)) (pss_one (ps_asg (pv 2) (pg_sub (pe_ix ix_list (pe_fld (pv 0) rfl) (pe_meth0 (pv 0) T.cl_Banks T.m_Banks__window_below G_Banks__window_below (hr.mono (by decide)) T.bd_Banks__window_below .nil pass0) (fun _ _ => rfl)) (pv 1) set_list))) (pss_one (ps_if (pt_cmpR op_ne (pv 1) pe_int (nomark _)) (pss_one (ps_asg (pv 2) (pg_sub (pe_fld (pv 0) rfl) (pv 1) set_list))) pss_nil)))))), ?_⟩
    unfold Bk.wr Bk.rowOf Bk.ofs at q
    refine ⟨_, rfl, _, _, rfl, rfl, _, rfl, ite3 (fun e => ?_) (fun e => ?_)⟩
    · have c2 : ¬ j < 16 := by have := of_decide_eq_true e; omega
      rw [if_neg (by omega), if_neg (by omega), if_neg c2, if_neg c2] at q
      have e2 : (j : Int) - 16 = ((j - 16 : Nat) : Int) := by omega
      refine ⟨_, rfl, _, rfl, t, a.C_Banks, dx, _, _, rfl, W.ob.1, T.cl_Banks, T.n_Banks__windows, bkf__windows _ _ _ _ _ _ _, _, rfl, t, a.C_Banks, dx, _, _, rfl, W.ob.1, T.cl_Banks, T.n_Banks_current, bkf_current _ _ _ _ _ _ _, _, _, _, _, rfl, rfl, SqL.of W.w.1, atI_nat (rng_at ho.cn), _, rfl, _, _, rfl, rfl, _, _, _, _, rfl, rfl, (W.r _ ho.cn).1, (by rw [e2]; exact ixN_nat (by rw [List.length_map, ho.w]; omega)), ?_⟩
      rw [set_int]
      exact q _ ⟨dx, gl, wn, wr, W.row ho.cn _⟩ (Stp.refl.put (mem1 (W.r _ ho.cn).2 rfl))
    have c2 : j < 16 := by have := of_decide_eq_false e; omega
    refine ⟨_, rfl, _, _, rfl, rfl, _, rfl, ite3 (fun e => ?_) (fun e => ?_)⟩
    · have c1 : ¬ j < 8 := by have := of_decide_eq_true e; omega
      rw [if_neg (by omega), if_neg c1, if_pos c2, if_pos c2] at q
      refine ⟨_, rfl, _, rfl, t, a.C_Banks, dx, _, _, rfl, W.ob.1, T.cl_Banks, T.n_Banks__windows, bkf__windows _ _ _ _ _ _ _, _, rfl, t, dx, _, rfl, W.ob.1, bkf_no__window_below _ _ _ _ _ _ _, τ, i, t, B, rfl, W0, ho, _, _, _, _, rfl, rfl, SqL.of W.w.1, atI_nat (rng_at ho.lo), _, rfl, _, _, _, _, rfl, rfl, (W.r _ ho.lo).1, ixN_nat (by rw [List.length_map, ho.w]; omega), ?_⟩
      rw [set_int]
      exact q _ ⟨dx, gl, wn, wr, W.row ho.lo _⟩ (Stp.refl.put (mem1 (W.r _ ho.lo).2 rfl))
    have c1 : j < 8 := by have := of_decide_eq_false e; omega
    refine ⟨_, rfl, rfl, _, rfl, ite3 (fun e => ?_) (fun e => ?_)⟩
    · have h0 : j ≠ 0 := by intro z; subst z; simp at e
      rw [if_neg h0, if_pos c1] at q
      refine ⟨_, rfl, _, rfl, t, a.C_Banks, dx, _, _, rfl, W.ob.1, T.cl_Banks, T.n_Banks__globals, bkf__globals _ _ _ _ _ _ _, _, rfl, _, _, _, _, rfl, rfl, W.g.1, ixN_nat (by rw [List.length_map, ho.g]; exact c1), ?_⟩
      rw [set_int]
      exact q _ ⟨dx, gl, wn, wr, W.glb _⟩ (Stp.refl.put (mem1 W.g.2 rfl))
    · have h0 : j = 0 := by simpa using e
      rw [if_pos h0] at q
      exact q _ W0 Stp.refl
end

section
variable {P : Program} {w : World} {K : PySem.W.Frag} {mg : Str → Option Value} {base : Heap} {a : Ad}
theorem ok_Banks__go_down (T : Txt w K mg a) : FnOk P w K mg base CX0 2 a.f_Banks__go_down a.d_Banks__go_down ["self"] (spBC a.C_Banks Bk.gd fun _ => .non) := by
  have G_Banks__window_below : FnOk P w K mg base CX0 1 _ _ _ _ := ok_Banks__window_below T
  refine T.F_Banks__go_down.ok sc_Banks__go_down (fun vs H Q E h => ?_) (fun cdv A outer s H vs Q E hr h => ?_)
  · obtain ⟨_, _, _, _, rfl, _⟩ := h; rfl
  · obtain ⟨τ, i, t, B, rfl, W0, ho, q⟩ := h
    have W0' := W0
    obtain ⟨dx, gl, wn, wr, W⟩ := W0'
    refine ⟨_, (pss_cons (ps_fld (pv 0) (pe_meth0 (pv 0) T.cl_Banks T.m_Banks__window_below G_Banks__window_below (hr.mono (by decide)) T.bd_Banks__window_below .nil pass0) rfl)
      (pss_one (ps_fldaug (pv 0) pe_int in_add))), ?_⟩
    refine ⟨_, rfl, t, dx, _, rfl, W.ob.1, bkf_no__window_below _ _ _ _ _ _ _, τ, i, t, B, rfl, W0, ho, ?_⟩
    refine ⟨_, rfl, t, a.C_Banks, dx, _, rfl, W.ob.1, T.cl_Banks, T.n_Banks_current, (by show 7 < 1000; decide), ?_⟩
    rw [bkf_put_current]
    refine ⟨_, rfl, t, a.C_Banks, dx, _, _, rfl, upd_same, T.cl_Banks, T.n_Banks_depth, bkf_depth _ _ _ _ _ _ _, _, _, rfl, rfl, dx, _, upd_same, (by show 7 < 1000; decide), ?_⟩
    rw [bkf_put_depth, upd_upd]
    exact q _ ⟨dx, gl, wn, wr, W.fld (B' := B.gd) rfl rfl rfl⟩ (Stp.refl.put (mem1 W.ob.2 rfl))
theorem ok_Banks_shift_up (T : Txt w K mg a) : FnOk P w K mg base CX0 2 a.f_Banks_shift_up a.d_Banks_shift_up ["self"] (spBC a.C_Banks Bk.up fun _ => .non) := by
  have G_Banks__window_above : FnOk P w K mg base CX0 1 _ _ _ _ := ok_Banks__window_above T
  refine T.F_Banks_shift_up.ok sc_Banks_shift_up (fun vs H Q E h => ?_) (fun cdv A outer s H vs Q E hr h => ?_)
  · obtain ⟨_, _, _, _, rfl, _⟩ := h; rfl
  · obtain ⟨τ, i, t, B, rfl, W0, ho, q⟩ := h
    have W0' := W0
    obtain ⟨dx, gl, wn, wr, W⟩ := W0'
    refine ⟨_, (pss_cons (ps_fld (pv 0) (pe_meth0 (pv 0) T.cl_Banks T.m_Banks__window_above G_Banks__window_above (hr.mono (by decide)) T.bd_Banks__window_above .nil pass0) rfl)
      (pss_one (ps_fldaug (pv 0) pe_int in_sub))), ?_⟩
    refine ⟨_, rfl, t, dx, _, rfl, W.ob.1, bkf_no__window_above _ _ _ _ _ _ _, τ, i, t, B, rfl, W0, ho, ?_⟩
    refine ⟨_, rfl, t, a.C_Banks, dx, _, rfl, W.ob.1, T.cl_Banks, T.n_Banks_current, (by show 7 < 1000; decide), ?_⟩
    rw [bkf_put_current]
    refine ⟨_, rfl, t, a.C_Banks, dx, _, _, rfl, upd_same, T.cl_Banks, T.n_Banks_depth, bkf_depth _ _ _ _ _ _ _, _, _, rfl, rfl, dx, _, upd_same, (by show 7 < 1000; decide), ?_⟩
    rw [bkf_put_depth, upd_upd]
    exact q _ ⟨dx, gl, wn, wr, W.fld (B' := B.up) rfl rfl rfl⟩ (Stp.refl.put (mem1 W.ob.2 rfl))
theorem ok_Banks_blocked_down (T : Txt w K mg a) : FnOk P w K mg base CX0 2 a.f_Banks_blocked_down a.d_Banks_blocked_down ["self"] (spBV a.C_Banks fun B => .bl (decide (V.int B.lo = V.int B.bar))) := by
  have G_Banks__window_below : FnOk P w K mg base CX0 1 _ _ _ _ := ok_Banks__window_below T
  refine T.F_Banks_blocked_down.ok sc_Banks_blocked_down (fun vs H Q E h => ?_) (fun cdv A outer s H vs Q E hr h => ?_)
  · obtain ⟨_, _, _, _, rfl, _⟩ := h; rfl
  · obtain ⟨τ, i, t, B, rfl, W0, ho, q⟩ := h
    have W0' := W0
    obtain ⟨dx, gl, wn, wr, W⟩ := W0'
    refine ⟨_, (pss_one (ps_ret (pe_cmpR op_eq (pe_meth0 (pv 0) T.cl_Banks T.m_Banks__window_below G_Banks__window_below (hr.mono (by decide)) T.bd_Banks__window_below .nil pass0) (pe_fld (pv 0) rfl) (nomark _)))), ?_⟩
    exact ⟨_, rfl, t, dx, _, rfl, W.ob.1, bkf_no__window_below _ _ _ _ _ _ _, τ, i, t, B, rfl, W0, ho, _, rfl, t, a.C_Banks, dx, _, _, rfl, W.ob.1, T.cl_Banks, T.n_Banks_barred, bkf_barred _ _ _ _ _ _ _, rfl, q⟩
theorem ok_Banks_blocked_up (T : Txt w K mg a) : FnOk P w K mg base CX0 2 a.f_Banks_blocked_up a.d_Banks_blocked_up ["self"] (spBV a.C_Banks fun B => .bl (decide (V.int B.hi = V.int B.bar))) := by
  have G_Banks__window_above : FnOk P w K mg base CX0 1 _ _ _ _ := ok_Banks__window_above T
  refine T.F_Banks_blocked_up.ok sc_Banks_blocked_up (fun vs H Q E h => ?_) (fun cdv A outer s H vs Q E hr h => ?_)
  · obtain ⟨_, _, _, _, rfl, _⟩ := h; rfl
  · obtain ⟨τ, i, t, B, rfl, W0, ho, q⟩ := h
    have W0' := W0
    obtain ⟨dx, gl, wn, wr, W⟩ := W0'
    refine ⟨_, (pss_one (ps_ret (pe_cmpR op_eq (pe_meth0 (pv 0) T.cl_Banks T.m_Banks__window_above G_Banks__window_above (hr.mono (by decide)) T.bd_Banks__window_above .nil pass0) (pe_fld (pv 0) rfl) (nomark _)))), ?_⟩
    exact ⟨_, rfl, t, dx, _, rfl, W.ob.1, bkf_no__window_above _ _ _ _ _ _ _, τ, i, t, B, rfl, W0, ho, _, rfl, t, a.C_Banks, dx, _, _, rfl, W.ob.1, T.cl_Banks, T.n_Banks_barred, bkf_barred _ _ _ _ _ _ _, rfl, q⟩
theorem ok_Banks_set_bar (T : Txt w K mg a) : FnOk P w K mg base CX0 1 a.f_Banks_set_bar a.d_Banks_set_bar ["self", "number"] (spBA a.C_Banks Bk.sb) := by
  refine T.F_Banks_set_bar.ok sc_Banks_set_bar (fun vs H Q E h => ?_) (fun cdv A outer s H vs Q E hr h => ?_)
  · obtain ⟨_, _, _, _, _, rfl, _⟩ := h; rfl
  · obtain ⟨τ, i, t, B, x, rfl, ⟨dx, gl, wn, wr, W⟩, ho, q⟩ := h
    refine ⟨_, (pss_one (ps_fld (pv 0) (pv 1) rfl)), ?_⟩
    refine ⟨_, rfl, _, rfl, t, a.C_Banks, dx, _, rfl, W.ob.1, T.cl_Banks, T.n_Banks_barred, (by show 7 < 1000; decide), ?_⟩
    rw [bkf_put_barred]
    exact q _ ⟨dx, gl, wn, wr, W.fld (B' := B.sb x) rfl rfl rfl⟩ (Stp.refl.put (mem1 W.ob.2 rfl))
theorem ok_Banks__begin_trap (T : Txt w K mg a) : FnOk P w K mg base CX0 3 a.f_Banks__begin_trap a.d_Banks__begin_trap ["self", "address"] (spBA a.C_Banks Bk.bt) := by
  have G_Banks__go_down : FnOk P w K mg base CX0 2 _ _ _ _ := ok_Banks__go_down T
  have G_Banks_write : FnOk P w K mg base CX0 2 _ _ _ _ := ok_Banks_write T
  refine T.F_Banks__begin_trap.ok sc_Banks__begin_trap (fun vs H Q E h => ?_) (fun cdv A outer s H vs Q E hr h => ?_)
  · obtain ⟨_, _, _, _, _, rfl, _⟩ := h; rfl
  · obtain ⟨τ, i, t, B, x, rfl, W0, ho, q⟩ := h
    have W0' := W0
    obtain ⟨dx, gl, wn, wr, W⟩ := W0'
    refine ⟨_, (pss_cons (ps_expr (pe_meth0 (pv 0) T.cl_Banks T.m_Banks__go_down G_Banks__go_down (hr.mono (by decide)) T.bd_Banks__go_down .nil pass0))
      (pss_one (ps_expr (pe_meth (pv 0) T.cl_Banks T.m_Banks_write G_Banks_write (hr.mono (by decide)) T.bd_Banks_write .nil pass0 (pa_cons pe_int (pa_cons (pv 1) pa_nil)))))), ?_⟩
    refine ⟨_, rfl, t, dx, _, rfl, W.ob.1, bkf_no__go_down _ _ _ _ _ _ _, τ, i, t, B, rfl, W0, ho, fun H1 W1 F1 => ?_⟩
    have W1' := W1
    obtain ⟨dx, gl, wn, wr, V1⟩ := W1'
    exact ⟨_, rfl, t, dx, _, rfl, V1.ob.1, bkf_no_write _ _ _ _ _ _ _, _, rfl, τ, i, t, B.gd, 17, x, rfl, W1, ho.gd, by decide, fun H2 W2 F2 => q _ W2 (F1.tr F2)⟩
theorem ok_Banks_trap_down (T : Txt w K mg a) : FnOk P w K mg base CX0 4 a.f_Banks_trap_down a.d_Banks_trap_down ["self", "address"] (spBA a.C_Banks Bk.td) := by
  have G_Banks__begin_trap : FnOk P w K mg base CX0 3 _ _ _ _ := ok_Banks__begin_trap T
  refine T.F_Banks_trap_down.ok sc_Banks_trap_down (fun vs H Q E h => ?_) (fun cdv A outer s H vs Q E hr h => ?_)
  · obtain ⟨_, _, _, _, _, rfl, _⟩ := h; rfl
  · obtain ⟨τ, i, t, B, x, rfl, ⟨dx, gl, wn, wr, W⟩, ho, q⟩ := h
    refine ⟨_, (pss_cons (ps_fldaug (pv 0) pe_int in_add)
      (pss_one (ps_expr (pe_meth (pv 0) T.cl_Banks T.m_Banks__begin_trap G_Banks__begin_trap (hr.mono (by decide)) T.bd_Banks__begin_trap .nil pass0 (pa_cons (pv 1) pa_nil))))), ?_⟩
    refine ⟨_, rfl, t, a.C_Banks, dx, _, _, rfl, W.ob.1, T.cl_Banks, T.n_Banks_spills, bkf_spills _ _ _ _ _ _ _, _, _, rfl, rfl, dx, _, W.ob.1, (by show 7 < 1000; decide), ?_⟩
    rw [bkf_put_spills]
    have V1 := W.fld (B' := { B with s := B.s + 1 }) rfl rfl rfl
    have F1 := (Stp.refl (τ := τ) (S := [i]) (H := H)).put (o := .ins a.C_Banks dx (bkf B.d (B.s + 1) B.f B.c B.bar gl wn)) (mem1 W.ob.2 rfl)
    exact ⟨_, rfl, t, dx, _, rfl, V1.ob.1, bkf_no__begin_trap _ _ _ _ _ _ _, _, rfl, τ, i, t, { B with s := B.s + 1 }, x, rfl, ⟨dx, gl, wn, wr, V1⟩, ⟨ho.g, ho.w, ho.n3, ho.n32, ho.cn⟩, fun H2 W2 F2 => q _ W2 (F1.tr F2)⟩
theorem ok_Banks_trap_up (T : Txt w K mg a) : FnOk P w K mg base CX0 4 a.f_Banks_trap_up a.d_Banks_trap_up ["self", "address"] (spBA a.C_Banks Bk.tu) := by
  have G_Banks__begin_trap : FnOk P w K mg base CX0 3 _ _ _ _ := ok_Banks__begin_trap T
  refine T.F_Banks_trap_up.ok sc_Banks_trap_up (fun vs H Q E h => ?_) (fun cdv A outer s H vs Q E hr h => ?_)
  · obtain ⟨_, _, _, _, _, rfl, _⟩ := h; rfl
  · obtain ⟨τ, i, t, B, x, rfl, ⟨dx, gl, wn, wr, W⟩, ho, q⟩ := h
    refine ⟨_, (pss_cons (ps_fldaug (pv 0) pe_int in_add)
      (pss_one (ps_expr (pe_meth (pv 0) T.cl_Banks T.m_Banks__begin_trap G_Banks__begin_trap (hr.mono (by decide)) T.bd_Banks__begin_trap .nil pass0 (pa_cons (pv 1) pa_nil))))), ?_⟩
    refine ⟨_, rfl, t, a.C_Banks, dx, _, _, rfl, W.ob.1, T.cl_Banks, T.n_Banks_fills, bkf_fills _ _ _ _ _ _ _, _, _, rfl, rfl, dx, _, W.ob.1, (by show 7 < 1000; decide), ?_⟩
    rw [bkf_put_fills]
    have V1 := W.fld (B' := { B with f := B.f + 1 }) rfl rfl rfl
    have F1 := (Stp.refl (τ := τ) (S := [i]) (H := H)).put (o := .ins a.C_Banks dx (bkf B.d B.s (B.f + 1) B.c B.bar gl wn)) (mem1 W.ob.2 rfl)
    exact ⟨_, rfl, t, dx, _, rfl, V1.ob.1, bkf_no__begin_trap _ _ _ _ _ _ _, _, rfl, τ, i, t, { B with f := B.f + 1 }, x, rfl, ⟨dx, gl, wn, wr, V1⟩, ⟨ho.g, ho.w, ho.n3, ho.n32, ho.cn⟩, fun H2 W2 F2 => q _ W2 (F1.tr F2)⟩
theorem ok_Banks_leave_trap (T : Txt w K mg a) : FnOk P w K mg base CX0 3 a.f_Banks_leave_trap a.d_Banks_leave_trap ["self"] (spBC a.C_Banks Bk.up fun B => .int (B.rd 17)) := by
  have G_Banks_read : FnOk P w K mg base CX0 2 _ _ _ _ := ok_Banks_read T
  have G_Banks_shift_up : FnOk P w K mg base CX0 2 _ _ _ _ := ok_Banks_shift_up T
  refine T.F_Banks_leave_trap.ok sc_Banks_leave_trap (fun vs H Q E h => ?_) (fun cdv A outer s H vs Q E hr h => ?_)
  · obtain ⟨_, _, _, _, rfl, _⟩ := h; rfl
  · obtain ⟨τ, i, t, B, rfl, W0, ho, q⟩ := h
    have W0' := W0
    obtain ⟨dx, gl, wn, wr, W⟩ := W0'
    refine ⟨_, (pss_cons (ps_set (i := 1) sc_Banks_leave_trap.nd rfl (Or.inl rfl) (pe_meth (pv 0) T.cl_Banks T.m_Banks_read G_Banks_read (hr.mono (by decide)) T.bd_Banks_read .nil pass0 (pa_cons pe_int pa_nil)))
      (pss_cons (ps_expr (pe_meth0 (pv 0) T.cl_Banks T.m_Banks_shift_up G_Banks_shift_up (hr.mono (by decide)) T.bd_Banks_shift_up .nil pass0))
      (pss_one (ps_ret (pv 1))))), ?_⟩
    refine ⟨_, rfl, t, dx, _, rfl, W.ob.1, bkf_no_read _ _ _ _ _ _ _, τ, i, t, B, 17, rfl, W0, ho, by decide, ?_⟩
    exact ⟨_, rfl, t, dx, _, rfl, W.ob.1, bkf_no_shift_up _ _ _ _ _ _ _, τ, i, t, B, rfl, W0, ho, fun H1 W1 F1 => ⟨_, rfl, q _ W1 F1⟩⟩
theorem ok_Banks_shift_down (T : Txt w K mg a) : FnOk P w K mg base CX0 3 a.f_Banks_shift_down a.d_Banks_shift_down ["self"] (spBC a.C_Banks Bk.dn fun _ => .non) := by
  have G_Banks__go_down : FnOk P w K mg base CX0 2 _ _ _ _ := ok_Banks__go_down T
  have G_Banks__window_below : FnOk P w K mg base CX0 1 _ _ _ _ := ok_Banks__window_below T
  refine T.F_Banks_shift_down.ok sc_Banks_shift_down (fun vs H Q E h => ?_) (fun cdv A outer s H vs Q E hr h => ?_)
  · obtain ⟨_, _, _, _, rfl, _⟩ := h; rfl
  · obtain ⟨τ, i, t, B0, rfl, W0, ho0, q⟩ := h
    have W0' := W0
    obtain ⟨dx, gl, wn, wr, W⟩ := W0'
    refine ⟨_, (pss_cons (ps_expr (pe_meth0 (pv 0) T.cl_Banks T.m_Banks__go_down G_Banks__go_down (hr.mono (by decide)) T.bd_Banks__go_down .nil pass0))
      (pss_one (ps_if (pt_cmpR op_ne (pe_fld (pv 0) rfl) (pe_un un_neg pe_int) (nomark _)) (pss_cons (ps_asg (pe_op op_rep (pe_lst (pa_cons pe_int pa_nil)) pe_int) (pg_slc (pe_ix ix_list (pe_fld (pv 0) rfl) (pe_fld (pv 0) rfl) (fun _ _ => rfl)) po_none (po_some pe_int)))
      (pss_one (ps_asg (pe_op op_rep (pe_lst (pa_cons pe_int pa_nil)) pe_int) (pg_slc (pe_ix ix_list (pe_fld (pv 0) rfl) (pe_meth0 (pv 0) T.cl_Banks T.m_Banks__window_below G_Banks__window_below (hr.mono (by decide)) T.bd_Banks__window_below .nil pass0) (fun _ _ => rfl)) (po_some pe_int) po_none)))) pss_nil))), ?_⟩
    refine ⟨_, rfl, t, dx, _, rfl, W.ob.1, bkf_no__go_down _ _ _ _ _ _ _, τ, i, t, B0, rfl, W0, ho0, fun H1 W1 F1 => ?_⟩
    have ho := ho0.gd
    unfold Bk.dn at q
    generalize B0.gd = B at W1 ho q
    clear W W0
    have W1' := W1
    obtain ⟨dx, gl, wn, wr, W⟩ := W1'
    refine ⟨_, rfl, t, a.C_Banks, dx, _, _, rfl, W.ob.1, T.cl_Banks, T.n_Banks_barred, bkf_barred _ _ _ _ _ _ _, _, rfl, rfl, _, rfl, ite3 (fun e => ?_) (fun e => ?_)⟩
    · have hb : B.bar ≠ -1 := by intro z; rw [z] at e; simp at e
      rw [if_neg hb] at q
      -- the locals
      refine ⟨(by show 1 ≤ sizeLine; decide), fun b1 m1 => ⟨_, _, _, rfl, rfl, upd_same, by decide, by decide, (by show 1 * 8 ≤ sizeLine; decide), fun z nz => ?_⟩⟩
      rw [show (List.replicate (8 : Int).toNat [V.int 0]).flatten = (List.replicate 8 (0 : Int)).map V.int from rep_int 8]
      have s1 := sN (sN (Same.refl H1) m1 (o := .lst [V.int 0])) nz (o := .lst ((List.replicate 8 (0 : Int)).map V.int))
      have az : upd (upd H1 b1 (.lst [V.int 0])) z (.lst ((List.replicate 8 (0 : Int)).map V.int)) z = some (.lst ((List.replicate 8 (0 : Int)).map V.int)) := upd_same
      have nz1 : H1 z = none := (sN (Same.refl H1) m1 (o := .lst [V.int 0])).free nz
      generalize upd (upd H1 b1 (.lst [V.int 0])) z (.lst ((List.replicate 8 (0 : Int)).map V.int)) = H2 at s1 az ⊢
      have F2 := F1.tr (Stp.same (τ := τ) (S := [i]) s1)
      have nc : wr B.c ≠ z := ne_of_none (W.r _ ho.cn).1 nz1
      have V2 : BWx a.C_Banks τ i H2 t dx gl wn wr B := ⟨W.ob.same s1, W.g.same s1, W.w.same s1, fun k hk => (W.r k hk).same s1⟩
      have hlc := (V2.r _ ho.cn)
      refine ⟨_, rfl, t, a.C_Banks, dx, _, _, rfl, V2.ob.1, T.cl_Banks, T.n_Banks__windows, bkf__windows _ _ _ _ _ _ _, _, rfl, t, a.C_Banks, dx, _, _, rfl, V2.ob.1, T.cl_Banks, T.n_Banks_current, bkf_current _ _ _ _ _ _ _, _, _, _, _, rfl, rfl, SqL.of V2.w.1, atI_nat (rng_at ho.cn), _, rfl, wr B.c, z, _, _, 0, 8, rfl, rfl, hlc.1, az, nc, by decide, by rw [List.length_map, ho.w]; decide, ?_, by rw [List.length_map, ho.w]; decide, ?_⟩
      · rw [List.length_map, ho.w]; rfl
      have e1 : List.take 0 ((B.W B.c).map V.int) ++ (List.replicate 8 (0 : Int)).map V.int ++ List.drop 8 ((B.W B.c).map V.int) = (Bk.zp 0 8 (B.W B.c)).map V.int := by
        simp [Bk.zp]
      rw [e1]
      have V3 := V2.row ho.cn (Bk.zp 0 8 (B.W B.c))
      have F3 := F2.put (o := .lst ((Bk.zp 0 8 (B.W B.c)).map V.int)) (mem1 hlc.2 rfl)
      have ho3 : Bk.ok { B with W := upF B.W B.c (Bk.zp 0 8 (B.W B.c)) } := ⟨ho.g, Bk.upF_len ho.w (by rw [Bk.zp_len (by rw [ho.w]; decide)]; exact ho.w _), ho.n3, ho.n32, ho.cn⟩
      generalize upd H2 (wr B.c) (.lst ((Bk.zp 0 8 (B.W B.c)).map V.int)) = H3 at V3 F3 ⊢
      clear az s1 V2 F2 nz1 nc hlc
      -- the outs
      refine ⟨(by show 1 ≤ sizeLine; decide), fun b1 m1 => ⟨_, _, _, rfl, rfl, upd_same, by decide, by decide, (by show 1 * 8 ≤ sizeLine; decide), fun z nz => ?_⟩⟩
      rw [show (List.replicate (8 : Int).toNat [V.int 0]).flatten = (List.replicate 8 (0 : Int)).map V.int from rep_int 8]
      have s1 := sN (sN (Same.refl H3) m1 (o := .lst [V.int 0])) nz (o := .lst ((List.replicate 8 (0 : Int)).map V.int))
      have az : upd (upd H3 b1 (.lst [V.int 0])) z (.lst ((List.replicate 8 (0 : Int)).map V.int)) z = some (.lst ((List.replicate 8 (0 : Int)).map V.int)) := upd_same
      have nz1 : H3 z = none := (sN (Same.refl H3) m1 (o := .lst [V.int 0])).free nz
      generalize upd (upd H3 b1 (.lst [V.int 0])) z (.lst ((List.replicate 8 (0 : Int)).map V.int)) = H4 at s1 az ⊢
      have F4 := F3.tr (Stp.same (τ := τ) (S := [i]) s1)
      have V4 : BWx a.C_Banks τ i H4 t dx gl wn wr { B with W := upF B.W B.c (Bk.zp 0 8 (B.W B.c)) } := ⟨V3.ob.same s1, V3.g.same s1, V3.w.same s1, fun k hk => (V3.r k hk).same s1⟩
      have nc : wr B.lo ≠ z := ne_of_none (V3.r _ ho.lo).1 nz1
      have hl4 := (V4.r _ ho.lo)
      have el : upF B.W B.c (Bk.zp 0 8 (B.W B.c)) B.lo = B.W B.lo := upF_ne ho.lc
      dsimp only at hl4
      rw [el] at hl4
      refine ⟨_, rfl, t, a.C_Banks, dx, _, _, rfl, V4.ob.1, T.cl_Banks, T.n_Banks__windows, bkf__windows _ _ _ _ _ _ _, _, rfl, t, dx, _, rfl, V4.ob.1, bkf_no__window_below _ _ _ _ _ _ _, τ, i, t, { B with W := upF B.W B.c (Bk.zp 0 8 (B.W B.c)) }, rfl, ⟨dx, gl, wn, wr, V4⟩, ho3, _, _, _, _, rfl, rfl, SqL.of V4.w.1, atI_nat (rng_at ho.lo), _, rfl, wr B.lo, z, _, _, 8, 16, rfl, rfl, hl4.1, az, nc, by decide, by rw [List.length_map, ho.w]; decide, ?_, by rw [List.length_map, ho.w]; decide, ?_⟩
      · rw [List.length_map, ho.w]; rfl
      have e2 : List.take 8 ((B.W B.lo).map V.int) ++ (List.replicate 8 (0 : Int)).map V.int ++ List.drop 16 ((B.W B.lo).map V.int) = (Bk.zp 8 8 (B.W B.lo)).map V.int := by
        simp [Bk.zp]
      rw [e2]
      have V5 := V4.row ho.lo (Bk.zp 8 8 (B.W B.lo))
      refine q _ ⟨dx, gl, wn, wr, ?_⟩ (F4.put (mem1 hl4.2 rfl))
      have e3 : B.clr 16 = { B with W := upF (upF B.W B.c (Bk.zp 0 8 (B.W B.c))) B.lo (Bk.zp 8 8 (B.W B.lo)) } := by
        unfold Bk.clr
        rw [Bk.upF_comm ho.lc]
        rfl
      rw [e3]
      exact V5
    · have hb : B.bar = -1 := by simpa using e
      rw [if_pos hb] at q
      exact q _ W1 F1
end

/-! ### rules of a block over a fixed K -/
theorem ix_tupK {X : Cx} {K : PySem.W.Frag} (h : X.K = K) : IxR X (rIxT K) := by
  subst h
  exact ix_tup
theorem ix_listK {X : Cx} {K : PySem.W.Frag} (h : X.K = K) : IxR X (rIxL K) := by
  subst h
  exact ix_list
theorem call_isiK {X : Cx} {K : PySem.W.Frag} (h : X.K = K) : CallR X (.builtin "isinstance") (rIsi K) := by
  subst h
  exact call_isi
theorem sTr {H H1 H2 : Hp} (x : Same H H1) (y : Same H1 H2) : Same H H2 := fun b o e => y b o (x b o e)
/-! ### data without lists -/
mutual
inductive DT (K : PySem.W.Frag) (H : Hp) : V → PyData → Prop
  | non : DT K H .non .none
  | bl (b : Bool) : DT K H (.bl b) (.bool b)
  | int (i : Int) : DT K H (.int i) (.int i)
  | str (x : Str) : DT K H (.str x) (.str x)
  | tup {a : Addr} {xs : List V} {ds : List PyData} : SqT K H a xs → DTs K H xs ds → DT K H (.ref a) (.tuple ds)
inductive DTs (K : PySem.W.Frag) (H : Hp) : List V → List PyData → Prop
  | nil : DTs K H [] []
  | cons {v : V} {vs : List V} {d : PyData} {ds : List PyData} : DT K H v d → DTs K H vs ds → DTs K H (v :: vs) (d :: ds)
end
section
variable {K : PySem.W.Frag} {H H' H2 : Hp}
theorem DTs.len : ∀ {vs : List V} {ds : List PyData}, DTs K H vs ds → vs.length = ds.length
  | _, _, .nil => rfl
  | _, _, .cons _ r => congrArg (· + 1) r.len
theorem DTs.get : ∀ {vs : List V} {ds : List PyData} {i : Nat} {d : PyData}, DTs K H vs ds → ds[i]? = some d → ∃ v, vs[i]? = some v ∧ DT K H v d
  | _, _, _, _, .nil, e => by simp at e
  | _, _, 0, _, .cons h _, e => by
    obtain rfl := Option.some.inj e
    exact ⟨_, rfl, h⟩
  | _, _, i + 1, d, .cons _ r, e => by
    obtain ⟨v, h1, h2⟩ := r.get (i := i) (d := d) (by simpa using e)
    exact ⟨v, by simpa using h1, h2⟩
theorem DTs.at : ∀ {vs : List V} {ds : List PyData} {i : Nat} {v : V}, DTs K H vs ds → vs[i]? = some v → ∃ d, ds[i]? = some d ∧ DT K H v d
  | _, _, _, _, .nil, e => by simp at e
  | _, _, 0, _, .cons h _, e => by
    obtain rfl := Option.some.inj e
    exact ⟨_, rfl, h⟩
  | _, _, i + 1, v, .cons _ r, e => by
    obtain ⟨d, h1, h2⟩ := r.at (i := i) (v := v) (by simpa using e)
    exact ⟨d, by simpa using h1, h2⟩
theorem DTs.app : ∀ {vs ws : List V} {ds es : List PyData}, DTs K H vs ds → DTs K H ws es → DTs K H (vs ++ ws) (ds ++ es)
  | _, _, _, _, .nil, s => s
  | _, _, _, _, .cons h r, s => .cons h (r.app s)
/-- tuples stay -/
def KT (K : PySem.W.Frag) (H H' : Hp) : Prop := ∀ a xs, SqT K H a xs → SqT K H' a xs
theorem KT.same (s : Same H H') : KT K H H' := fun _ _ h => seqT s h
theorem KT.tr (x : KT K H H') (y : KT K H' H2) : KT K H H2 := fun a xs h => y a xs (x a xs h)
theorem KT.put {p : Addr} {ys : List V} {o : HO} (e : H p = some (.lst ys)) : KT K H (upd H p o) := fun a xs h => by
  rcases h with (h | ⟨u, h⟩) | h
  · exact .inl (.inl (by rw [upd_ne (ne_of h e fun z => nomatch z)]; exact h))
  · exact .inl (.inr ⟨u, by rw [upd_ne (ne_of h e fun z => nomatch z)]; exact h⟩)
  · exact .inr h
theorem KT.new {p : Addr} {o : HO} (n : H p = none) : KT K H (upd H p o) := .same (sN (Same.refl H) n)
mutual
theorem DT.keep (k : KT K H H') : ∀ {v : V} {d : PyData}, DT K H v d → DT K H' v d
  | _, _, .non => .non
  | _, _, .bl b => .bl b
  | _, _, .int b => .int b
  | _, _, .str b => .str b
  | _, _, .tup h r => .tup (k _ _ h) (r.keep k)
theorem DTs.keep (k : KT K H H') : ∀ {vs : List V} {ds : List PyData}, DTs K H vs ds → DTs K H' vs ds
  | _, _, .nil => .nil
  | _, _, .cons h r => .cons (h.keep k) (r.keep k)
end
def isTup : PyData → Bool
  | .tuple _ => true
  | _ => false
theorem DT.isT {v : V} {d : PyData} (h : DT K H v d) : ∃ t, TyX K H v t ∧ PySem.W.kitOne K t (.type "tuple") = some (isTup d) := by
  cases h with
  | non => exact ⟨_, .base .non, kit_ty (by decide +kernel : kitB "NoneType" "tuple" = some false)⟩
  | bl b => exact ⟨_, .base (.bl b), kit_ty (by decide +kernel : kitB "bool" "tuple" = some false)⟩
  | int b => exact ⟨_, .base (.int b), kit_ty (by decide +kernel : kitB "int" "tuple" = some false)⟩
  | str b => exact ⟨_, .base (.str b), kit_ty (by decide +kernel : kitB "str" "tuple" = some false)⟩
  | tup h r => exact ⟨_, tyx_tup h, kit_ty (by decide +kernel : kitB "tuple" "tuple" = some true)⟩
end

/-! ### fields and forms -/
def nms : List Str := ["halt", "add", "sub", "mul", "div", "mod", "rem", "less", "equal", "high", "low", "load", "store", "jump", "branch", "call", "save", "restore", "back", "raise", "again", "tick", "put", "get", "below", "above", "bar", "setbar", "retry"]
def nmS (k : Nat) : Str := nms.getD k ""
def fS (f : Nat) : Str := (["d", "a", "reg", "int", "part", "far", "distance", "number", "source"] : List Str).getD f ""
def fSh (f : Nat) : Int := ([21, 16, 0, 0, 0, 0, 0, 0] : List Int).getD f 0
def fMn (f : Nat) : Int := ([5, 5, 15, 15, 15, 21, 26, 26] : List Int).getD f 0
def fLo (f : Nat) : Int := ([0, 0, 0, -16384, 0, -1048576, -33554432, 0] : List Int).getD f 0
def fHi (f : Nat) : Int := ([31, 31, 31, 16383, 2047, 1048575, 33554431, 67108863] : List Int).getD f 0
def fm (k : Nat) : List Nat := ([[], [0, 1, 8], [0, 1, 8], [0, 1, 8], [0, 1, 8], [0, 1, 8], [0, 1, 8], [0, 1, 8], [0, 1, 8], [0, 5], [0, 1, 4], [0, 1, 8], [0, 1, 8], [6], [0, 5], [7], [0, 1, 8], [], [], [7], [1, 8], [], [8], [0], [1, 8], [1, 8], [0], [8], []] : List (List Nat)).getD k []
theorem fs_src : ∀ f : _root_.Fin 9, decide (V.str (fS f.val) = V.str "source") = decide (f.val = 8) := by decide +kernel
theorem fs_flag : ∀ f : _root_.Fin 8, inV (.str (fS f.val)) [V.str "int", V.str "part"] = decide (f.val = 3 ∨ f.val = 4) := by decide +kernel
theorem nm_first : ∀ k : _root_.Fin 29, nms[k.val]? = some (nmS k.val) ∧ ∀ m : _root_.Fin 29, m.val < k.val → nms[m.val]? ≠ some (nmS k.val) := by decide +kernel
theorem fm_lt : ∀ k : _root_.Fin 29, ∀ f ∈ fm k.val, f < 9 := by decide +kernel
theorem mask5 (x : Int) : Builtin.bitAnd x 31 = x % 32 := PyProof.Rows.bitAnd_m5 x
theorem mask15 (x : Int) : Builtin.bitAnd x 32767 = x % 32768 := by
  by_cases c : 0 ≤ x
  · rw [PyProof.Rows.bitAnd_pp c (by decide), show x.toNat &&& (32767 : Int).toNat = x.toNat % 32768 from Nat.and_two_pow_sub_one_eq_mod x.toNat 15]; omega
  · rw [PyProof.Rows.bitAnd_np c (by decide), show (32767 : Int).toNat &&& (Builtin.bitNot x).toNat = (Builtin.bitNot x).toNat % 32768 by rw [Nat.and_comm]; exact Nat.and_two_pow_sub_one_eq_mod (Builtin.bitNot x).toNat 15]; unfold Builtin.bitNot; omega
theorem mask21 (x : Int) : Builtin.bitAnd x 2097151 = x % 2097152 := by
  by_cases c : 0 ≤ x
  · rw [PyProof.Rows.bitAnd_pp c (by decide), show x.toNat &&& (2097151 : Int).toNat = x.toNat % 2097152 from Nat.and_two_pow_sub_one_eq_mod x.toNat 21]; omega
  · rw [PyProof.Rows.bitAnd_np c (by decide), show (2097151 : Int).toNat &&& (Builtin.bitNot x).toNat = (Builtin.bitNot x).toNat % 2097152 by rw [Nat.and_comm]; exact Nat.and_two_pow_sub_one_eq_mod (Builtin.bitNot x).toNat 21]; unfold Builtin.bitNot; omega
theorem mask26 (x : Int) : Builtin.bitAnd x 67108863 = x % 67108864 := by
  by_cases c : 0 ≤ x
  · rw [PyProof.Rows.bitAnd_pp c (by decide), show x.toNat &&& (67108863 : Int).toNat = x.toNat % 67108864 from Nat.and_two_pow_sub_one_eq_mod x.toNat 26]; omega
  · rw [PyProof.Rows.bitAnd_np c (by decide), show (67108863 : Int).toNat &&& (Builtin.bitNot x).toNat = (Builtin.bitNot x).toNat % 67108864 by rw [Nat.and_comm]; exact Nat.and_two_pow_sub_one_eq_mod (Builtin.bitNot x).toNat 26]; unfold Builtin.bitNot; omega
def fMod (f : Nat) : Int := ([32, 32, 32768, 32768, 32768, 2097152, 67108864, 67108864] : List Int).getD f 1
def fMul (f : Nat) : Int := ([2097152, 65536, 1, 1, 1, 1, 1, 1] : List Int).getD f 1
theorem bits_and (f : Nat) (h : f < 8) (x : Int) : Builtin.bitAnd x (1 * 2 ^ (fMn f).toNat - 1) * 2 ^ (fSh f).toNat = x % fMod f * fMul f := by
  match f, h with
  | 0, _ => exact congrArg (· * (2097152 : Int)) (mask5 x)
  | 1, _ => exact congrArg (· * (65536 : Int)) (mask5 x)
  | 2, _ => exact congrArg (· * (1 : Int)) (mask15 x)
  | 3, _ => exact congrArg (· * (1 : Int)) (mask15 x)
  | 4, _ => exact congrArg (· * (1 : Int)) (mask15 x)
  | 5, _ => exact congrArg (· * (1 : Int)) (mask21 x)
  | 6, _ => exact congrArg (· * (1 : Int)) (mask26 x)
  | 7, _ => exact congrArg (· * (1 : Int)) (mask26 x)
theorem fsh_ok : ∀ f : _root_.Fin 8, 0 ≤ fSh f.val ∧ fSh f.val ≤ 1000000 ∧ 0 ≤ fMn f.val ∧ fMn f.val ≤ 1000000 := by decide +kernel
theorem and_small (f : Nat) (h : f < 8) (x : Int) : (Builtin.bitAnd x (1 * 2 ^ (fMn f).toNat - 1)).natAbs < 2 ^ 64 := by
  have hm : ∀ m : Int, 0 < m → m < 2 ^ 60 → (x % m).natAbs < 2 ^ 64 := fun m h1 h2 => by
    have := Int.emod_nonneg x (b := m) (by omega)
    have := Int.emod_lt_of_pos x h1
    omega
  match f, h with
  | 0, _ => exact (congrArg (fun z : Int => z.natAbs < 2 ^ 64) (mask5 x)).mpr (hm _ (by decide) (by decide))
  | 1, _ => exact (congrArg (fun z : Int => z.natAbs < 2 ^ 64) (mask5 x)).mpr (hm _ (by decide) (by decide))
  | 2, _ => exact (congrArg (fun z : Int => z.natAbs < 2 ^ 64) (mask15 x)).mpr (hm _ (by decide) (by decide))
  | 3, _ => exact (congrArg (fun z : Int => z.natAbs < 2 ^ 64) (mask15 x)).mpr (hm _ (by decide) (by decide))
  | 4, _ => exact (congrArg (fun z : Int => z.natAbs < 2 ^ 64) (mask15 x)).mpr (hm _ (by decide) (by decide))
  | 5, _ => exact (congrArg (fun z : Int => z.natAbs < 2 ^ 64) (mask21 x)).mpr (hm _ (by decide) (by decide))
  | 6, _ => exact (congrArg (fun z : Int => z.natAbs < 2 ^ 64) (mask26 x)).mpr (hm _ (by decide) (by decide))
  | 7, _ => exact (congrArg (fun z : Int => z.natAbs < 2 ^ 64) (mask26 x)).mpr (hm _ (by decide) (by decide))
/-- what stands in a field: a number, or an operand's kind (an int: true) and number -/
inductive Ar where
  | n (x : Int)
  | s (b : Bool) (x : Int)
def okF (f : Nat) (x : Int) : Bool := cond (decide (fLo f ≤ x)) (decide (x ≤ fHi f)) false
def bitF (f : Nat) (x : Int) : Int := if decide (f = 3 ∨ f = 4) = true then x % fMod f * fMul f + 32768 else x % fMod f * fMul f
def kdS (b : Bool) : Nat := if b = true then 3 else 2
def okA : Nat → Ar → Bool
  | f, .n x => okF f x
  | _, .s b x => okF (kdS b) x
def bitA : Nat → Ar → Int
  | f, .n x => bitF f x
  | _, .s b x => bitF (kdS b) x
def wtA : Nat → Ar → Prop
  | f, .n _ => f < 8
  | f, .s _ _ => f = 8
def sumB : List Nat → List Ar → Int
  | f :: fs, x :: xs => bitA f x + sumB fs xs
  | _, _ => 0
def okS : List Nat → List Ar → Bool
  | f :: fs, x :: xs => cond (okA f x) (okS fs xs) false
  | _, _ => true
def wtS : List Nat → List Ar → Prop
  | [], [] => True
  | f :: fs, x :: xs => wtA f x ∧ wtS fs xs
  | _, _ => False
def encV (k : Nat) (xs : List Ar) : Int := (k : Int) * 67108864 + sumB (fm k) xs
inductive ArV (K : PySem.W.Frag) (H : Hp) : V → Ar → Prop
  | n (x : Int) : ArV K H (.int x) (.n x)
  | s {p : Addr} {b : Bool} {x : Int} (h : SqT K H p [.str (fS (kdS b)), .int x]) : ArV K H (.ref p) (.s b x)
theorem ArV.same {K : PySem.W.Frag} {H H' : Hp} {v : V} {x : Ar} (h : ArV K H v x) (s : Same H H') : ArV K H' v x := by
  cases h with
  | n x => exact .n x
  | s h => exact .s (seqT s h)
inductive ArVs (K : PySem.W.Frag) (H : Hp) : List V → List Ar → Prop
  | nil : ArVs K H [] []
  | cons {v : V} {vs : List V} {x : Ar} {xs : List Ar} : ArV K H v x → ArVs K H vs xs → ArVs K H (v :: vs) (x :: xs)
theorem ArVs.same {K : PySem.W.Frag} {H H' : Hp} (s : Same H H') : ∀ {vs : List V} {xs : List Ar}, ArVs K H vs xs → ArVs K H' vs xs
  | _, _, .nil => .nil
  | _, _, .cons h r => .cons (h.same s) (r.same s)
theorem ArVs.len {K : PySem.W.Frag} {H : Hp} : ∀ {vs : List V} {xs : List Ar}, ArVs K H vs xs → vs.length = xs.length
  | _, _, .nil => rfl
  | _, _, .cons _ r => congrArg (· + 1) r.len
theorem ArVs.get {K : PySem.W.Frag} {H : Hp} : ∀ {vs : List V} {xs : List Ar} {i : Nat} {v : V}, ArVs K H vs xs → vs[i]? = some v → ∃ x, xs[i]? = some x ∧ ArV K H v x
  | _, _, _, _, .nil, e => by simp at e
  | _, _, 0, _, .cons h _, e => by
    obtain rfl := Option.some.inj e
    exact ⟨_, rfl, h⟩
  | _, _, i + 1, v, .cons _ r, e => by
    obtain ⟨x, h1, h2⟩ := r.get (i := i) (v := v) (by simpa using e)
    exact ⟨x, by simpa using h1, h2⟩
theorem wtS.len : ∀ {fs : List Nat} {xs : List Ar}, wtS fs xs → fs.length = xs.length
  | [], [], _ => rfl
  | _ :: _, _ :: _, h => congrArg (· + 1) (wtS.len h.2)
  | [], _ :: _, h => h.elim
  | _ :: _, [], h => h.elim
theorem wtS.get : ∀ {fs : List Nat} {xs : List Ar} {i : Nat} {f : Nat} {x : Ar}, wtS fs xs → fs[i]? = some f → xs[i]? = some x → wtA f x
  | f0 :: fs, x0 :: xs, 0, f, x, h, e1, e2 => by
    obtain rfl := Option.some.inj e1
    obtain rfl := Option.some.inj e2
    exact h.1
  | f0 :: fs, x0 :: xs, i + 1, f, x, h, e1, e2 => wtS.get (i := i) h.2 (by simpa using e1) (by simpa using e2)
  | [], _, _, _, _, _, e1, _ => by simp at e1
  | _ :: _, [], _, _, _, h, _, _ => h.elim
theorem sum_take : ∀ (fs : List Nat) (xs : List Ar) (i f : Nat) (x : Ar), fs[i]? = some f → xs[i]? = some x → sumB (fs.take (i + 1)) (xs.take (i + 1)) = sumB (fs.take i) (xs.take i) + bitA f x
  | f0 :: fs, x0 :: xs, 0, f, x, e1, e2 => by
    obtain rfl := Option.some.inj e1
    obtain rfl := Option.some.inj e2
    show bitA f0 x0 + sumB (fs.take 0) (xs.take 0) = 0 + bitA f0 x0
    rw [List.take_zero]
    show bitA f0 x0 + 0 = 0 + bitA f0 x0
    omega
  | f0 :: fs, x0 :: xs, i + 1, f, x, e1, e2 => by
    have := sum_take fs xs i f x (by simpa using e1) (by simpa using e2)
    show bitA f0 x0 + sumB (fs.take (i + 1)) (xs.take (i + 1)) = bitA f0 x0 + sumB (fs.take i) (xs.take i) + bitA f x
    omega
  | [], _, _, _, _, e1, _ => by simp at e1
  | _ :: _, [], _, _, _, _, e2 => by simp at e2
theorem okS_at : ∀ (fs : List Nat) (xs : List Ar) (i f : Nat) (x : Ar), fs[i]? = some f → xs[i]? = some x → okS fs xs = true → okA f x = true
  | f0 :: fs, x0 :: xs, 0, f, x, e1, e2, h => by
    obtain rfl := Option.some.inj e1
    obtain rfl := Option.some.inj e2
    cases c : okA f0 x0 with
    | true => rfl
    | false => have h' : cond (okA f0 x0) (okS fs xs) false = true := h; rw [c] at h'; exact h'
  | f0 :: fs, x0 :: xs, i + 1, f, x, e1, e2, h => by
    refine okS_at fs xs i f x (by simpa using e1) (by simpa using e2) ?_
    have h' : cond (okA f0 x0) (okS fs xs) false = true := h
    cases c : okA f0 x0 with
    | true => rw [c] at h'; exact h'
    | false => rw [c] at h'; exact nomatch h'
  | [], _, _, _, _, e1, _, _ => by simp at e1
  | _ :: _, [], _, _, _, _, e2, _ => by simp at e2
theorem okS_all : ∀ (fs : List Nat) (xs : List Ar), fs.length = xs.length → (∀ (i f : Nat) (x : Ar), fs[i]? = some f → xs[i]? = some x → okA f x = true) → okS fs xs = true
  | [], _, _, _ => rfl
  | _ :: _, [], h, _ => nomatch h
  | f :: fs, x :: xs, h, k => by
    show cond (okA f x) (okS fs xs) false = true
    rw [k 0 f x rfl rfl]
    exact okS_all fs xs (Nat.succ.inj h) fun i g y e1 e2 => k (i + 1) g y (by simpa using e1) (by simpa using e2)
def spBits (K : PySem.W.Frag) (C : Addr) (n : Nat) : Sp := fun vs H Q E => ∃ (f : Nat) (v : V) (x : Ar), f < 9 ∧ vs = [.str (fS f), v] ∧ ArV K H v x ∧ wtA f x ∧ (f < 8 ∨ n = 1) ∧ ∀ H', Same H H' → (okA f x = true → Q (.int (bitA f x)) H') ∧ (okA f x = false → E (.ref C) none H')
def spEnc (K : PySem.W.Frag) (C : Addr) : Sp := fun vs H Q E => ∃ (ip : Addr) (k : Nat) (ws : List V) (xs : List Ar), k < 29 ∧ vs = [.ref ip] ∧ SqT K H ip (.str (nmS k) :: ws) ∧ ArVs K H ws xs ∧ wtS (fm k) xs ∧ ∀ H', Same H H' → (okS (fm k) xs = true → Q (.int (encV k xs)) H') ∧ (okS (fm k) xs = false → E (.ref C) none H')
def spEncC (K : PySem.W.Frag) : Sp := fun vs H Q _ => ∃ (ip : Addr) (k : Nat) (ws : List V) (xs : List Ar), k < 29 ∧ vs = [.ref ip] ∧ SqT K H ip (.str (nmS k) :: ws) ∧ ArVs K H ws xs ∧ wtS (fm k) xs ∧ okS (fm k) xs = true ∧ ∀ H', Same H H' → Q (.int (encV k xs)) H'
section
variable {P : Program} {w : World} {K : PySem.W.Frag} {mg : Str → Option Value} {base : Heap} {a : Ad}
theorem field_at (T : Txt w K mg a) : ∀ f, f < 8 → ∃ p, KDct K w a.c_FIELDS (fS f) (.ref p) ∧ ∀ H : Hp, SqT K H p [.int (fSh f), .int (fMn f), .int (fLo f), .int (fHi f)]
  | 0, _ => ⟨_, T.kd_FIELDS_d, T.q_FIELDS_d⟩
  | 1, _ => ⟨_, T.kd_FIELDS_a, T.q_FIELDS_a⟩
  | 2, _ => ⟨_, T.kd_FIELDS_reg, T.q_FIELDS_reg⟩
  | 3, _ => ⟨_, T.kd_FIELDS_int, T.q_FIELDS_int⟩
  | 4, _ => ⟨_, T.kd_FIELDS_part, T.q_FIELDS_part⟩
  | 5, _ => ⟨_, T.kd_FIELDS_far, T.q_FIELDS_far⟩
  | 6, _ => ⟨_, T.kd_FIELDS_distance, T.q_FIELDS_distance⟩
  | 7, _ => ⟨_, T.kd_FIELDS_number, T.q_FIELDS_number⟩
  | f + 8, h => by omega
theorem form_at (T : Txt w K mg a) : ∀ k, k < 29 → ∃ p, KDct K w a.c_FORMS (nmS k) (.ref p) ∧ ∀ H : Hp, SqT K H p ((fm k).map fun f => V.str (fS f))
  | 0, _ => ⟨_, T.kd_FORMS_halt, T.q_FORMS_halt⟩
  | 1, _ => ⟨_, T.kd_FORMS_add, T.q_FORMS_add⟩
  | 2, _ => ⟨_, T.kd_FORMS_sub, T.q_FORMS_sub⟩
  | 3, _ => ⟨_, T.kd_FORMS_mul, T.q_FORMS_mul⟩
  | 4, _ => ⟨_, T.kd_FORMS_div, T.q_FORMS_div⟩
  | 5, _ => ⟨_, T.kd_FORMS_mod, T.q_FORMS_mod⟩
  | 6, _ => ⟨_, T.kd_FORMS_rem, T.q_FORMS_rem⟩
  | 7, _ => ⟨_, T.kd_FORMS_less, T.q_FORMS_less⟩
  | 8, _ => ⟨_, T.kd_FORMS_equal, T.q_FORMS_equal⟩
  | 9, _ => ⟨_, T.kd_FORMS_high, T.q_FORMS_high⟩
  | 10, _ => ⟨_, T.kd_FORMS_low, T.q_FORMS_low⟩
  | 11, _ => ⟨_, T.kd_FORMS_load, T.q_FORMS_load⟩
  | 12, _ => ⟨_, T.kd_FORMS_store, T.q_FORMS_store⟩
  | 13, _ => ⟨_, T.kd_FORMS_jump, T.q_FORMS_jump⟩
  | 14, _ => ⟨_, T.kd_FORMS_branch, T.q_FORMS_branch⟩
  | 15, _ => ⟨_, T.kd_FORMS_call, T.q_FORMS_call⟩
  | 16, _ => ⟨_, T.kd_FORMS_save, T.q_FORMS_save⟩
  | 17, _ => ⟨_, T.kd_FORMS_restore, T.q_FORMS_restore⟩
  | 18, _ => ⟨_, T.kd_FORMS_back, T.q_FORMS_back⟩
  | 19, _ => ⟨_, T.kd_FORMS_raise, T.q_FORMS_raise⟩
  | 20, _ => ⟨_, T.kd_FORMS_again, T.q_FORMS_again⟩
  | 21, _ => ⟨_, T.kd_FORMS_tick, T.q_FORMS_tick⟩
  | 22, _ => ⟨_, T.kd_FORMS_put, T.q_FORMS_put⟩
  | 23, _ => ⟨_, T.kd_FORMS_get, T.q_FORMS_get⟩
  | 24, _ => ⟨_, T.kd_FORMS_below, T.q_FORMS_below⟩
  | 25, _ => ⟨_, T.kd_FORMS_above, T.q_FORMS_above⟩
  | 26, _ => ⟨_, T.kd_FORMS_bar, T.q_FORMS_bar⟩
  | 27, _ => ⟨_, T.kd_FORMS_setbar, T.q_FORMS_setbar⟩
  | 28, _ => ⟨_, T.kd_FORMS_retry, T.q_FORMS_retry⟩
  | k + 29, h => by omega
end

section
variable {P : Program} {w : World} {K : PySem.W.Frag} {mg : Str → Option Value} {base : Heap} {a : Ad}
theorem ok_bits_aux (T : Txt w K mg a) (n k : Nat) (sp' : Sp) (G_bits_of : FnOk P w K mg base (L2.CX P w) k a.f_bits_of a.d_bits_of ["field", "part"] sp') (hG : n = 1 → ∀ vs H Q E, spBits K a.C_ImageError 0 vs H Q E → sp' vs H Q E) :
    FnOk P w K mg base (L2.CX P w) (k + 1) a.f_bits_of a.d_bits_of ["field", "part"] (spBits K a.C_ImageError n) := by
  refine T.F__bits_of.okX sc_bits_of (fun vs H Q E h => ?_) (fun cdv A outer s H vs Q E hr h => ?_)
  · obtain ⟨_, _, _, _, rfl, _⟩ := h; rfl
  · obtain ⟨f, v, x, hf, rfl, hv, wt, hn, q⟩ := h
    refine ⟨_, (pss_cons (ps_if (pt_cmpR op_eq (pv 0) pe_str (nomark _)) (pss_cons (ps_asg (pv 1) (pg_tup rfl (pgs_cons (pg_name (i := 2) sc_bits_of.nd rfl (Or.inl rfl)) (pgs_cons (pg_name (i := 3) sc_bits_of.nd rfl (Or.inl rfl)) pgs_nil))))
      (pss_one (ps_ret (pe_call G_bits_of hr rfl T.g__bits_of T.k__bits_of T.bd__bits_of .nil (passes_call (takes_of rfl rfl rfl rfl) fun _ _ _ _ z => z) (pa_cons (pv 2) (pa_cons (pv 3) pa_nil)))))) pss_nil)
      (pss_cons (ps_asg (pe_ix ix_kdict (pe_glob (v := .ref a.c_FIELDS) rfl T.g_FIELDS rfl) (pv 0) (fun _ _ => rfl)) (pg_tup rfl (pgs_cons (pg_name (i := 4) sc_bits_of.nd rfl (Or.inl rfl)) (pgs_cons (pg_name (i := 5) sc_bits_of.nd rfl (Or.inl rfl)) (pgs_cons (pg_name (i := 6) sc_bits_of.nd rfl (Or.inl rfl)) (pgs_cons (pg_name (i := 7) sc_bits_of.nd rfl (Or.inl rfl)) pgs_nil))))))
      (pss_cons (ps_if (pt_not (pt_chain op_le op_le (pv 6) (pv 1) (pv 7))) (pss_one (ps_raise rfl (takes_of rfl rfl rfl rfl) (SkE.pmk_own1 PySem.F.excBase_ValueError T.x_ImageError T.g_ImageError T.kC_ImageError (raises_own T.s1_ImageError T.ty_ImageError) rfl (pe_joined (.cons pe_str (.cons (pe_fmt (pv 0)) .nil)))))) pss_nil)
      (pss_cons (ps_set (i := 8) sc_bits_of.nd rfl (Or.inl rfl) (pe_op op_shl (pe_op op_and (pv 1) (pe_op op_sub (pe_op op_shl pe_int (pv 5)) pe_int)) (pv 4)))
      (pss_one (ps_ret (pe_ifExp (pt_cmpR op_inS (pv 0) (pe_tup (pa_cons pe_str (pa_cons pe_str pa_nil))) rfl) (pe_op op_add (pv 8) (pe_glob (v := .int (32768)) rfl T.g_FLAG ⟨_, rfl⟩)) (pv 8)))))))), ?_⟩
    refine ⟨_, rfl, rfl, _, rfl, ?_⟩
    rw [fs_src ⟨f, hf⟩]
    refine ite3 (fun e => ?_) (fun e => ?_)
    · obtain rfl : f = 8 := of_decide_eq_true e
      have n1 : n = 1 := by omega
      cases hv with
      | n x => exact absurd wt (by show ¬ (8 : Nat) < 8; omega)
      | @s p b x h =>
        refine ⟨_, rfl, p, _, rfl, h, rfl, _, _, rfl, _, _, rfl, rfl, ?_⟩
        refine ⟨_, rfl, _, rfl, hG n1 _ _ _ _ ⟨kdS b, _, .n x, by unfold kdS; split <;> decide, rfl, .n x, by show kdS b < 8; unfold kdS; split <;> decide, .inl (by unfold kdS; split <;> decide), q⟩⟩
    have h8 : f < 8 := by have := of_decide_eq_false e; simp only at this; omega
    cases hv with
    | @s p b x h => exact absurd wt (by show ¬ f = 8; omega)
    | n x =>
      have q : ∀ H', Same H H' → (okF f x = true → Q (.int (bitF f x)) H') ∧ (okF f x = false → E (.ref a.C_ImageError) none H') := q
      obtain ⟨p, hk, hp⟩ := field_at T f h8
      obtain ⟨s0, s1, m0, m1⟩ := fsh_ok ⟨f, h8⟩
      have hfs : ∀ f : _root_.Fin 9, (Str.empty ++ Str.ofString "a number does not fit into the field ").length ≤ sizeLine ∧ (fS f.val).length ≤ sizeLine ∧ (Str.empty ++ Str.ofString "a number does not fit into the field " ++ fS f.val).length ≤ sizeLine := by decide +kernel
      refine ⟨_, rfl, _, _, _, rfl, rfl, hk, p, _, rfl, hp _, rfl, _, _, rfl, _, _, rfl, _, _, rfl, _, _, rfl, rfl, ?_⟩
      unfold okF at q
      have bad : ∀ (D : Ends) (σ : St), σ[0]? = some (some (V.str (fS f))) → (okF f x = false) → tJs [tC (.str (Str.ofString "a number does not fit into the field ")), tFmt (tVar 0)] Str.empty σ H (fun _ H' => E (.ref a.C_ImageError) none H') := fun D σ hσ hb =>
        ⟨_, rfl, (hfs ⟨f, hf⟩).1, _, hσ, .inl ⟨_, rfl, (hfs ⟨f, hf⟩).2.1, _, rfl, (hfs ⟨f, hf⟩).2.2, (q H (Same.refl H)).2 hb⟩⟩
      refine ⟨_, rfl, _, rfl, _, _, rfl, rfl, _, rfl, ite3 (fun e1 => ?_) (fun e1 => ?_)⟩
      · have e1' : decide (fLo f ≤ x) = true := e1
        refine ⟨_, rfl, _, _, rfl, rfl, _, rfl, ite3 (fun e2 => ?_) (fun e2 => ?_)⟩
        · have e2' : decide (x ≤ fHi f) = false := by simpa using e2
          exact bad { nx := fun _ _ => True, rt := fun _ _ => True } _ rfl (by unfold okF; rw [e1']; exact e2')
        · have e2' : decide (x ≤ fHi f) = true := by simpa using e2
          rw [e1'] at q
          refine ⟨_, rfl, _, rfl, _, _, rfl, rfl, ⟨m0, m1, by decide⟩, _, _, rfl, rfl, _, _, rfl, rfl, _, rfl, _, _, rfl, rfl, ⟨s0, s1, and_small f h8 x⟩, ?_⟩
          refine ⟨_, rfl, (by decide), fun t nt => ⟨_, _, rfl, .inr (SqT.of upd_same), rfl, rfl, _, rfl, ?_⟩⟩
          have q' := (q _ (sN (Same.refl H) nt (o := .tup [V.str "int", V.str "part"]))).1 e2'
          unfold bitF at q'
          rw [← bits_and f h8] at q'
          rw [fs_flag ⟨f, h8⟩]
          refine ite3 (fun e3 => ?_) (fun e3 => ?_)
          · rw [if_pos e3] at q'
            exact ⟨_, rfl, _, _, rfl, rfl, q'⟩
          · rw [if_neg (by rw [e3]; exact Bool.false_ne_true)] at q'
            exact ⟨_, rfl, q'⟩
      · have e1' : decide (fLo f ≤ x) = false := e1
        exact ⟨_, rfl, iteT (bad { nx := fun _ _ => True, rt := fun _ _ => True } _ rfl (by unfold okF; rw [e1']; rfl))⟩
theorem ok_bits_of (T : Txt w K mg a) : FnOk P w K mg base (L2.CX P w) 2 a.f_bits_of a.d_bits_of ["field", "part"] (spBits K a.C_ImageError 1) :=
  ok_bits_aux T 1 1 _ (ok_bits_aux T 0 0 spNever ⟨fun _ _ _ _ h => h.elim, fun _ _ _ _ _ _ _ _ _ _ _ _ _ h => h.elim⟩ fun h => nomatch h) fun _ vs H Q E h => h
theorem cut_tail {v : V} {ws : List V} : cutV (v :: ws) (some 1) none = ws := cut_lo _ 1
theorem ok_encode (T : Txt w K mg a) : FnOk P w K mg base (L2.CX P w) 3 a.f_encode a.d_encode ["instruction"] (spEnc K a.C_ImageError) := by
  have G_bits_of : FnOk P w K mg base (L2.CX P w) 2 _ _ _ _ := ok_bits_of T
  refine T.F_encode.okX sc_encode (fun vs H Q E h => ?_) (fun cdv A outer s H vs Q E hr h => ?_)
  · obtain ⟨_, _, _, _, _, rfl, _⟩ := h; rfl
  · obtain ⟨ip, k, ws, xs, hk, rfl, hI, hw, wt, q⟩ := h
    obtain ⟨fp, kf, hf⟩ := form_at T k hk
    have lx := wt.len
    have lw := hw.len
    refine ⟨_, (pss_cons (ps_set (i := 1) sc_encode.nd rfl (Or.inl rfl) (pe_ix ix_tup (pv 0) pe_int (fun _ _ => rfl)))
      (pss_cons (ps_set (i := 2) sc_encode.nd rfl (Or.inl rfl) (pe_op op_shl (pe_bm PySem.F.plainAttrs_tuple PySem.F.slot_tuple_index PySem.F.type_tuple_index mt_tup_index (pe_glob (v := .ref a.c_NAMES) rfl T.g_NAMES rfl) (pa_cons (pv 1) pa_nil)) (pe_glob (v := .int (26)) rfl T.g_NAME_SHIFT ⟨_, rfl⟩)))
      (pss_cons (ps_for (passes_of rfl) rfl (RZ.pi_zipA rfl T.b_zip (pa_cons (pe_ix ix_kdict (pe_glob (v := .ref a.c_FORMS) rfl T.g_FORMS rfl) (pv 1) (fun _ _ => rfl)) (pa_cons (pe_slice sl_tup (pv 0) (po_some pe_int) po_none) pa_nil))) (pg_tup rfl (pgs_cons (pg_name (i := 3) sc_encode.nd rfl (Or.inl rfl)) (pgs_cons (pg_name (i := 4) sc_encode.nd rfl (Or.inl rfl)) pgs_nil))) (pss_one (ps_aug (i := 2) sc_encode.nd rfl (Or.inl rfl) (pe_call G_bits_of (hr.mono (by decide)) rfl T.g__bits_of T.k__bits_of T.bd__bits_of .nil (passes_call (takes_of rfl rfl rfl rfl) fun _ _ _ _ z => z) (pa_cons (pv 3) (pa_cons (pv 4) pa_nil))) ip_add)))
      (pss_one (ps_ret (pv 2)))))), ?_⟩
    refine ⟨_, rfl, _, _, _, _, rfl, rfl, hI, at0, ?_⟩
    obtain ⟨on, hn1, hn2, hn3⟩ := T.y_NAMES
    refine ⟨.inr (.inl ⟨rfl, on, hn1, hn2, hn3⟩), _, rfl, _, nms, nmS k, k, rfl, rfl, T.q_NAMES _, (nm_first ⟨k, hk⟩).1, ?_, _, _, rfl, rfl, ⟨by decide, by decide, by omega⟩, ?_⟩
    · intro m hm
      exact (nm_first ⟨k, hk⟩).2 ⟨m, by omega⟩ hm
    refine ⟨_, rfl, _, _, _, rfl, rfl, kf, _, rfl, _, rfl, ip, _, rfl, hI, ?_, fun p np => ?_⟩
    · intro z
      have z1 := z.1
      rw [show (some (1 : Int)) = some ((1 : Nat) : Int) from rfl, HT.sIx_nat] at z1
      simp at z1
    rw [cut_tail]
    have s0 := sN (Same.refl H) np (o := .tup ws)
    have hp : upd H p (.tup ws) p = some (.tup ws) := upd_same
    generalize upd H p (.tup ws) = H1 at s0 hp ⊢
    have h0 : (k : Int) * 2 ^ (26 : Int).toNat = (k : Int) * 67108864 + sumB ((fm k).take 0) (xs.take 0) := by
      rw [List.take_zero, show sumB [] (List.take 0 xs) = 0 from rfl, Int.add_zero]
      rfl
    refine ⟨fp, p, _, _, rfl, .inr ⟨hf _, SqT.of hp, RZ.for_zipT (K := K) (a := fp) (b := p) (xs := (fm k).map fun f => V.str (fS f)) (ys := ws) (by rw [List.length_map]; omega)
      (fun i σ H' => Same H1 H' ∧ (∀ (j f : Nat) (x : Ar), j < i → (fm k)[j]? = some f → xs[j]? = some x → okA f x = true) ∧ ∃ x y, σ = [some (.ref ip), some (.str (nmS k)), some (.int ((k : Int) * 67108864 + sumB ((fm k).take i) (xs.take i))), x, y]) ?_ ?_ ?_ ?_⟩⟩
    · exact ⟨Same.refl _, fun j f x hj => absurd hj (Nat.not_lt_zero j), none, none, congrArg (fun z => [some (V.ref ip), some (V.str (nmS k)), some (V.int z), none, none]) h0⟩
    · rintro i σ H' ⟨ss, _, _, _, _⟩
      exact ⟨hf _, SqT.of (ss _ _ hp)⟩
    · rintro i x y T1 σ H' hx hy ⟨ss, hok, x0, y0, rfl⟩ nT
      obtain ⟨f, hfi, rfl⟩ : ∃ f, (fm k)[i]? = some f ∧ x = V.str (fS f) := by
        rw [List.getElem?_map] at hx
        cases e : (fm k)[i]? with
        | none => rw [e] at hx; cases hx
        | some c => rw [e] at hx; exact ⟨c, rfl, (Option.some.inj hx).symm⟩
      have st : Same H1 (upd H' T1 (.tup [V.str (fS f), y])) := sN ss nT
      obtain ⟨z, hz, hv⟩ := (hw.same (s0.trans st)).get hy
      refine ⟨T1, _, rfl, SqT.of upd_same, rfl, _, _, rfl, _, _, rfl, rfl, ?_⟩
      refine ⟨_, rfl, _, rfl, _, rfl, f, y, z, fm_lt ⟨k, hk⟩ f (List.mem_of_getElem? hfi), rfl, hv, wt.get hfi hz, .inr rfl, fun H2 s2 => ⟨fun ok => ?_, fun bad => ?_⟩⟩
      · refine ⟨_, _, rfl, rfl, st.trans s2, fun j g u hj e1 e2 => ?_, some (V.str (fS f)), some y, ?_⟩
        · by_cases c : j = i
          · subst c
            rw [hfi] at e1; rw [hz] at e2
            obtain rfl := Option.some.inj e1
            obtain rfl := Option.some.inj e2
            exact ok
          · exact hok j g u (by omega) e1 e2
        · have e : (k : Int) * 67108864 + sumB ((fm k).take i) (xs.take i) + bitA f z = (k : Int) * 67108864 + sumB ((fm k).take (i + 1)) (xs.take (i + 1)) := by
            rw [sum_take _ _ _ _ _ hfi hz, ← Int.add_assoc]
          exact congrArg (fun z => [some (V.ref ip), some (V.str (nmS k)), some (V.int z), some (V.str (fS f)), some y]) e
      · refine (q _ ((s0.trans st).trans s2)).2 ?_
        cases c : okS (fm k) xs with
        | false => rfl
        | true => rw [okS_at _ _ _ _ _ hfi hz c] at bad; exact nomatch bad
    · rintro σ H' ⟨ss, hok, x0, y0, rfl⟩
      rw [List.length_map] at hok ⊢
      rw [List.take_of_length_le (Nat.le_refl _), List.take_of_length_le (by omega)]
      refine ⟨_, rfl, (q _ (s0.trans ss)).1 (okS_all _ _ lx fun j f x e1 e2 => hok j f x (List.getElem?_eq_some_iff.mp e1).1 e1 e2)⟩
end

/-! ### rows of instructions -/
abbrev Ins : Type := Nat × List Ar
def insR (K : PySem.W.Frag) (H : Hp) (p : Addr) (r : Ins) : Prop := ∃ ws, SqT K H p (.str (nmS r.1) :: ws) ∧ ArVs K H ws r.2
theorem ArVs_kt {K : PySem.W.Frag} {H H' : Hp} (s : KT K H H') : ∀ {vs : List V} {xs : List Ar}, ArVs K H vs xs → ArVs K H' vs xs
  | _, _, .nil => .nil
  | _, _, .cons (.n x) r => .cons (.n x) (ArVs_kt s r)
  | _, _, .cons (.s h) r => .cons (.s (s _ _ h)) (ArVs_kt s r)
theorem insR.kt {K : PySem.W.Frag} {H H' : Hp} {p : Addr} {r : Ins} (s : KT K H H') (h : insR K H p r) : insR K H' p r := by
  obtain ⟨ws, h1, h2⟩ := h
  exact ⟨ws, s _ _ h1, ArVs_kt s h2⟩
theorem insR.same {K : PySem.W.Frag} {H H' : Hp} {p : Addr} {r : Ins} (s : Same H H') (h : insR K H p r) : insR K H' p r := by
  obtain ⟨ws, h1, h2⟩ := h
  exact ⟨ws, seqT s h1, h2.same s⟩
inductive InsVs (K : PySem.W.Frag) (H : Hp) : List V → List Ins → Prop
  | nil : InsVs K H [] []
  | cons {p : Addr} {r : Ins} {vs : List V} {rs : List Ins} : insR K H p r → InsVs K H vs rs → InsVs K H (.ref p :: vs) (r :: rs)
namespace InsVs
variable {K : PySem.W.Frag} {H H' : Hp}
theorem same (s : Same H H') : ∀ {vs : List V} {rs : List Ins}, InsVs K H vs rs → InsVs K H' vs rs
  | _, _, .nil => .nil
  | _, _, .cons h r => .cons (h.same s) (r.same s)
theorem kt (s : KT K H H') : ∀ {vs : List V} {rs : List Ins}, InsVs K H vs rs → InsVs K H' vs rs
  | _, _, .nil => .nil
  | _, _, .cons h r => .cons (h.kt s) (r.kt s)
theorem len : ∀ {vs : List V} {rs : List Ins}, InsVs K H vs rs → vs.length = rs.length
  | _, _, .nil => rfl
  | _, _, .cons _ r => congrArg (· + 1) r.len
theorem app : ∀ {vs ws : List V} {rs ss : List Ins}, InsVs K H vs rs → InsVs K H ws ss → InsVs K H (vs ++ ws) (rs ++ ss)
  | _, _, _, _, .nil, k => k
  | _, _, _, _, .cons h r, k => .cons h (r.app k)
theorem get : ∀ {vs : List V} {rs : List Ins} {i : Nat} {v : V}, InsVs K H vs rs → vs[i]? = some v → ∃ p r, v = .ref p ∧ rs[i]? = some r ∧ insR K H p r
  | _, _, _, _, .nil, e => by simp at e
  | _, _, 0, _, .cons h _, e => ⟨_, _, (Option.some.inj e).symm, rfl, h⟩
  | _, _, i + 1, v, .cons _ r, e => by
    obtain ⟨p, r, h1, h2, h3⟩ := r.get (i := i) (v := v) (by simpa using e)
    exact ⟨p, r, h1, by simpa using h2, h3⟩
end InsVs
def okI (r : Ins) : Prop := r.1 < 29 ∧ wtS (fm r.1) r.2 ∧ okS (fm r.1) r.2 = true
def movesI (k : Nat) (n : Nat) : List Ins := (List.range n).map fun i : Nat => (k, [.n (16 + (i : Int)), .n 14, .s true (i : Int)])
theorem movesI_succ {k n : Nat} : movesI k (n + 1) = movesI k n ++ [(k, [.n (16 + (n : Int)), .n 14, .s true n])] := by
  unfold movesI
  rw [List.range_succ, List.map_append]
  rfl
def spillI (n : Nat) : List Ins := [(26, [.n 19]), (2, [.n 20, .n 19, .s true 1]), (5, [.n 20, .n 20, .s true n]), (27, [.s true (-1)]), (16, [.n 0, .n 0, .s true 0])] ++ (movesI 12 16 ++ [(17, []), (27, [.s false 20]), (28, [])])
def fillI (n : Nat) : List Ins := [(26, [.n 19]), (1, [.n 20, .n 19, .s true 1]), (5, [.n 20, .n 20, .s true n]), (27, [.s true (-1)]), (17, []), (17, [])] ++ (movesI 11 16 ++ [(16, [.n 0, .n 0, .s true 0]), (16, [.n 0, .n 0, .s true 0]), (27, [.s false 20]), (28, [])])
def spMoves (K : PySem.W.Frag) : Sp := fun vs H Q _ => ∃ k, k < 29 ∧ vs = [.str (nmS k)] ∧ ∀ p ws H', H p = none → Same H H' → H' p = some (.lst ws) → InsVs K H' ws (movesI k 16) → Q (.ref p) H'
def spRows (K : PySem.W.Frag) (f : Nat → List Ins) : Sp := fun vs H Q _ => ∃ n : Nat, vs = [.int n] ∧ ∀ p ws H', H p = none → Same H H' → H' p = some (.lst ws) → InsVs K H' ws (f n) → Q (.ref p) H'
section
variable {P : Program} {w : World} {K : PySem.W.Frag} {mg : Str → Option Value} {base : Heap} {a : Ad}
theorem ok_moves (T : Txt w K mg a) : FnOk P w K mg base CX0 1 a.f_moves a.d_moves ["name"] (spMoves K) := by
  refine T.F__moves.ok sc_moves (fun vs H Q E h => ?_) (fun cdv A outer s H vs Q E hr h => ?_)
  · obtain ⟨_, _, rfl, _⟩ := h; rfl
  · obtain ⟨k, hk, rfl, q⟩ := h
    refine ⟨_, (pss_one (ps_ret (pe_lc (own := [("at", 1)]) (g := gName 1) rfl sc_moves.nd (pi_range1 rfl T.b_range (pa_cons (pe_glob (v := .int (16)) rfl T.g_SAVED ⟨_, rfl⟩) pa_nil)) (blkOk_by (own := [("at", 1)]) (N := ["name", "at"]) (sc := defScope s_moves) (by decide +kernel)) (fun _ _ _ _ _ => pg_name (i := 1) sc_moves.nd rfl (Or.inl rfl)) (fun _ _ _ _ _ => pts_nil) (fun _ _ _ _ _ => (pe_tup (pa_cons (pv 0) (pa_cons (pe_op op_add (pe_glob (v := .int (16)) rfl T.g_FIRST_LOCAL ⟨_, rfl⟩) (pv 1)) (pa_cons (pe_glob (v := .int (14)) rfl T.g_STACK ⟨_, rfl⟩) (pa_cons (pe_tup (pa_cons pe_str (pa_cons (pv 1) pa_nil))) pa_nil))))))))), ?_⟩
    refine ⟨_, rfl, by decide, by decide, fun D nD => ?_⟩
    refine lc_range (lo := 0) (n := (16 : Int).toNat) (fun i H' => Same H H' ∧ ∃ ws, H' D = some (.lst ws) ∧ InsVs K H' ws (movesI k i)) ⟨sN (Same.refl H) nD, [], upd_same, .nil⟩ ?_ ?_
    · rintro i H1 hi ⟨s1, ws, hD, hws⟩
      refine ⟨rfl, _, rfl, _, rfl, _, _, rfl, rfl, _, rfl, (by show 2 ≤ sizeLine; decide), fun t nt => ⟨(by show 4 ≤ sizeLine; decide), fun u nu => ?_⟩⟩
      have s2 := sN (Same.refl H1) nt (o := .tup [V.str "int", V.int (0 + (i : Int))])
      have s3 := sN s2 nu (o := .tup [V.str (nmS k), V.int (16 + (0 + (i : Int))), V.int 14, V.ref t])
      have ht : upd (upd H1 t (.tup [V.str "int", V.int (0 + (i : Int))])) u (.tup [V.str (nmS k), V.int (16 + (0 + (i : Int))), V.int 14, V.ref t]) t = some (.tup [V.str "int", V.int (0 + (i : Int))]) := sN (Same.refl _) nu _ _ upd_same
      have hu : upd (upd H1 t (.tup [V.str "int", V.int (0 + (i : Int))])) u (.tup [V.str (nmS k), V.int (16 + (0 + (i : Int))), V.int 14, V.ref t]) u = some (.tup [V.str (nmS k), V.int (16 + (0 + (i : Int))), V.int 14, V.ref t]) := upd_same
      generalize upd (upd H1 t (.tup [V.str "int", V.int (0 + (i : Int))])) u (.tup [V.str (nmS k), V.int (16 + (0 + (i : Int))), V.int 14, V.ref t]) = H3 at s3 ht hu ⊢
      have hl := hws.len
      have hn : ws.length ≤ 16 := by rw [hl]; unfold movesI; rw [List.length_map, List.length_range]; exact Nat.le_of_lt hi
      rw [Int.zero_add] at hu ht
      have hr : insR K H3 u (k, [.n (16 + (i : Int)), .n 14, .s true (i : Int)]) := ⟨_, SqT.of hu, .cons (.n _) (.cons (.n _) (.cons (.s (SqT.of ht)) .nil))⟩
      refine ⟨ws, s3 _ _ hD, sz (by omega), sUpd (s1.trans s3) nD, _, upd_same, ?_⟩
      rw [movesI_succ]
      have k1 : KT K H3 (upd H3 D (.lst (ws ++ [V.ref u]))) := KT.put (s3 _ _ hD)
      exact ((hws.same s3).kt k1).app (.cons (hr.kt k1) .nil)
    · rintro H1 ⟨s1, ws, hD, hws⟩
      exact q D ws H1 nD s1 hD hws
end
/-! displays of rows -/
section
variable {K : PySem.W.Frag} {σ : St} {H : Hp} {Q : VK} {k : Nat} {nm kd : Str} {b : Bool} {te : TE} {v : Int}
theorem tLst_in {t : TA} {D : Ends} (h : tLst t σ H D.rt) : tRet (tLst t) D σ H := h
theorem tLst_2 {t : TA} (h : t σ H fun vs H1 => vs.length ≤ sizeLine ∧ ∀ p, H1 p = none → Q (.ref p) (upd H1 p (.lst vs))) : tLst t σ H Q := h
theorem tCons_in {A : TE} {r : TA} {Q : List V → Hp → Prop} (h : A σ H fun x H1 => r σ H1 fun xs H2 => Q (x :: xs) H2) : tCons A r σ H Q := h
theorem rw0 (e : nmS k = nm) (q : ∀ p H', Same H H' → insR K H' p (k, []) → Q (.ref p) H') : tTup (tCons (tC (.str nm)) tNil) σ H Q := by
  subst e
  exact ⟨(by show 1 ≤ sizeLine; decide), fun p np => q p _ (sN (Same.refl H) np) ⟨[], SqT.of upd_same, .nil⟩⟩
theorem rw1 {x : Int} (e : nmS k = nm) (q : ∀ p H', Same H H' → insR K H' p (k, [.n x]) → Q (.ref p) H') : tTup (tCons (tC (.str nm)) (tCons (tC (.int x)) tNil)) σ H Q := by
  subst e
  exact ⟨(by show 2 ≤ sizeLine; decide), fun p np => q p _ (sN (Same.refl H) np) ⟨_, SqT.of upd_same, .cons (.n _) .nil⟩⟩
theorem rwS (e : nmS k = nm) (e2 : fS (kdS b) = kd) (ht : ∀ (H : Hp) (Q : VK), Q (.int v) H → te σ H Q) (q : ∀ p H', Same H H' → insR K H' p (k, [.s b v]) → Q (.ref p) H') :
    tTup (tCons (tC (.str nm)) (tCons (tTup (tCons (tC (.str kd)) (tCons te tNil))) tNil)) σ H Q := by
  subst e e2
  refine ht _ _ ⟨(by show 2 ≤ sizeLine; decide), fun t nt => ⟨(by show 2 ≤ sizeLine; decide), fun p np => q p _ (sN (sN (Same.refl H) nt) np) ⟨_, SqT.of upd_same, .cons (.s (SqT.of (sN (Same.refl _) np _ _ upd_same))) .nil⟩⟩⟩
theorem rw3 {x y : Int} (e : nmS k = nm) (e2 : fS (kdS b) = kd) (ht : ∀ (H : Hp) (Q : VK), Q (.int v) H → te σ H Q) (q : ∀ p H', Same H H' → insR K H' p (k, [.n x, .n y, .s b v]) → Q (.ref p) H') :
    tTup (tCons (tC (.str nm)) (tCons (tC (.int x)) (tCons (tC (.int y)) (tCons (tTup (tCons (tC (.str kd)) (tCons te tNil))) tNil)))) σ H Q := by
  subst e e2
  refine ht _ _ ⟨(by show 2 ≤ sizeLine; decide), fun t nt => ⟨(by show 4 ≤ sizeLine; decide), fun p np => q p _ (sN (sN (Same.refl H) nt) np) ⟨_, SqT.of upd_same, .cons (.n _) (.cons (.n _) (.cons (.s (SqT.of (sN (Same.refl _) np _ _ upd_same))) .nil))⟩⟩⟩
end
section
variable {P : Program} {w : World} {K : PySem.W.Frag} {mg : Str → Option Value} {base : Heap} {a : Ad}
theorem ok_spill (T : Txt w K mg a) : FnOk P w K mg base CX0 2 a.f_spill a.d_spill ["windows"] (spRows K spillI) := by
  have G_moves : FnOk P w K mg base CX0 1 _ _ _ _ := ok_moves T
  refine T.F__spill.ok sc_spill (fun vs H Q E h => ?_) (fun cdv A outer s H vs Q E hr h => ?_)
  · obtain ⟨_, rfl, _⟩ := h; rfl
  · obtain ⟨n, rfl, q⟩ := h
    refine ⟨_, (pss_one (ps_ret (pe_lst (pa_cons (pe_tup (pa_cons pe_str (pa_cons pe_int pa_nil))) (pa_cons (pe_tup (pa_cons pe_str (pa_cons pe_int (pa_cons pe_int (pa_cons (pe_tup (pa_cons pe_str (pa_cons pe_int pa_nil))) pa_nil))))) (pa_cons (pe_tup (pa_cons pe_str (pa_cons pe_int (pa_cons pe_int (pa_cons (pe_tup (pa_cons pe_str (pa_cons (pv 0) pa_nil))) pa_nil))))) (pa_cons (pe_tup (pa_cons pe_str (pa_cons (pe_tup (pa_cons pe_str (pa_cons (pe_un un_neg pe_int) pa_nil))) pa_nil))) (pa_cons (pe_tup (pa_cons pe_str (pa_cons pe_int (pa_cons pe_int (pa_cons (pe_tup (pa_cons pe_str (pa_cons pe_int pa_nil))) pa_nil))))) (StX.pa_star (pe_call G_moves (hr.mono (by decide)) rfl T.g__moves T.k__moves T.bd__moves .nil pass0 (pa_cons pe_str pa_nil)) (pa_cons (pe_tup (pa_cons pe_str pa_nil)) (pa_cons (pe_tup (pa_cons pe_str (pa_cons (pe_tup (pa_cons pe_str (pa_cons pe_int pa_nil))) pa_nil))) (pa_cons (pe_tup (pa_cons pe_str pa_nil)) pa_nil)))))))))))), ?_⟩
    refine tLst_in (tLst_2 ?_)
    refine tCons_in (rw1 (k := 26) (K := K) rfl fun p1 H1 s1 r1 => ?_)
    refine tCons_in (rw3 (k := 2) (K := K) (b := true) rfl rfl (fun _ _ q => q) fun p2 H2 s2 r2 => ?_)
    refine tCons_in (rw3 (k := 5) (K := K) (b := true) (v := (n : Int)) rfl rfl (fun _ _ q => ⟨_, rfl, q⟩) fun p3 H3 s3 r3 => ?_)
    refine tCons_in (rwS (k := 27) (K := K) (b := true) (v := -1) rfl rfl (fun _ _ q => ⟨_, rfl, q⟩) fun p4 H4 s4 r4 => ?_)
    refine tCons_in (rw3 (k := 16) (K := K) (b := true) rfl rfl (fun _ _ q => q) fun p5 H5 s5 r5 => ?_)
    refine ⟨12, by decide, rfl, fun p6 ws H6 n6 s6 h6 r6 => ⟨p6, ws, rfl, .inr (SqL.of h6), ?_⟩⟩
    refine tCons_in (rw0 (k := 17) (K := K) rfl fun p7 H7 s7 r7 => ?_)
    refine tCons_in (rwS (k := 27) (K := K) (b := false) rfl rfl (fun _ _ q => q) fun p8 H8 s8 r8 => ?_)
    refine tCons_in (rw0 (k := 28) (K := K) rfl fun p9 H9 s9 r9 => ?_)
    have lw := r6.len
    have lw : ws.length = 16 := lw
    refine ⟨(by simp [lw]; decide), fun p np => ?_⟩
    have f9 := sN (Same.refl H9) np (o := .lst ([V.ref p1, V.ref p2, V.ref p3, V.ref p4, V.ref p5] ++ (ws ++ [V.ref p7, V.ref p8, V.ref p9])))
    have f8 := s9.trans f9
    have f7 := s8.trans f8
    have f6 := s7.trans f7
    have f5 := s6.trans f6
    have f4 := s5.trans f5
    have f3 := s4.trans f4
    have f2 := s3.trans f3
    have f1 := s2.trans f2
    refine q p _ _ (((((((((s1.trans s2).trans s3).trans s4).trans s5).trans s6).trans s7).trans s8).trans s9).free np) (s1.trans f1) upd_same ?_
    exact InsVs.app (.cons (r1.same f1) (.cons (r2.same f2) (.cons (r3.same f3) (.cons (r4.same f4) (.cons (r5.same f5) .nil))))) ((r6.same f6).app (.cons (r7.same f7) (.cons (r8.same f8) (.cons (r9.same f9) .nil))))
theorem ok_fill (T : Txt w K mg a) : FnOk P w K mg base CX0 2 a.f_fill a.d_fill ["windows"] (spRows K fillI) := by
  have G_moves : FnOk P w K mg base CX0 1 _ _ _ _ := ok_moves T
  refine T.F__fill.ok sc_fill (fun vs H Q E h => ?_) (fun cdv A outer s H vs Q E hr h => ?_)
  · obtain ⟨_, rfl, _⟩ := h; rfl
  · obtain ⟨n, rfl, q⟩ := h
    refine ⟨_, (pss_one (ps_ret (pe_lst (pa_cons (pe_tup (pa_cons pe_str (pa_cons pe_int pa_nil))) (pa_cons (pe_tup (pa_cons pe_str (pa_cons pe_int (pa_cons pe_int (pa_cons (pe_tup (pa_cons pe_str (pa_cons pe_int pa_nil))) pa_nil))))) (pa_cons (pe_tup (pa_cons pe_str (pa_cons pe_int (pa_cons pe_int (pa_cons (pe_tup (pa_cons pe_str (pa_cons (pv 0) pa_nil))) pa_nil))))) (pa_cons (pe_tup (pa_cons pe_str (pa_cons (pe_tup (pa_cons pe_str (pa_cons (pe_un un_neg pe_int) pa_nil))) pa_nil))) (pa_cons (pe_tup (pa_cons pe_str pa_nil)) (pa_cons (pe_tup (pa_cons pe_str pa_nil)) (StX.pa_star (pe_call G_moves (hr.mono (by decide)) rfl T.g__moves T.k__moves T.bd__moves .nil pass0 (pa_cons pe_str pa_nil)) (pa_cons (pe_tup (pa_cons pe_str (pa_cons pe_int (pa_cons pe_int (pa_cons (pe_tup (pa_cons pe_str (pa_cons pe_int pa_nil))) pa_nil))))) (pa_cons (pe_tup (pa_cons pe_str (pa_cons pe_int (pa_cons pe_int (pa_cons (pe_tup (pa_cons pe_str (pa_cons pe_int pa_nil))) pa_nil))))) (pa_cons (pe_tup (pa_cons pe_str (pa_cons (pe_tup (pa_cons pe_str (pa_cons pe_int pa_nil))) pa_nil))) (pa_cons (pe_tup (pa_cons pe_str pa_nil)) pa_nil)))))))))))))), ?_⟩
    refine tLst_in (tLst_2 ?_)
    refine tCons_in (rw1 (k := 26) (K := K) rfl fun p1 H1 s1 r1 => ?_)
    refine tCons_in (rw3 (k := 1) (K := K) (b := true) rfl rfl (fun _ _ q => q) fun p2 H2 s2 r2 => ?_)
    refine tCons_in (rw3 (k := 5) (K := K) (b := true) (v := (n : Int)) rfl rfl (fun _ _ q => ⟨_, rfl, q⟩) fun p3 H3 s3 r3 => ?_)
    refine tCons_in (rwS (k := 27) (K := K) (b := true) (v := -1) rfl rfl (fun _ _ q => ⟨_, rfl, q⟩) fun p4 H4 s4 r4 => ?_)
    refine tCons_in (rw0 (k := 17) (K := K) rfl fun p5 H5 s5 r5 => ?_)
    refine tCons_in (rw0 (k := 17) (K := K) rfl fun pa Ha sa ra => ?_)
    refine ⟨11, by decide, rfl, fun p6 ws H6 n6 s6 h6 r6 => ⟨p6, ws, rfl, .inr (SqL.of h6), ?_⟩⟩
    refine tCons_in (rw3 (k := 16) (K := K) (b := true) rfl rfl (fun _ _ q => q) fun pb Hb sb rb => ?_)
    refine tCons_in (rw3 (k := 16) (K := K) (b := true) rfl rfl (fun _ _ q => q) fun p7 H7 s7 r7 => ?_)
    refine tCons_in (rwS (k := 27) (K := K) (b := false) rfl rfl (fun _ _ q => q) fun p8 H8 s8 r8 => ?_)
    refine tCons_in (rw0 (k := 28) (K := K) rfl fun p9 H9 s9 r9 => ?_)
    have lw := r6.len
    have lw : ws.length = 16 := lw
    refine ⟨(by simp [lw]; decide), fun p np => ?_⟩
    have f9 := sN (Same.refl H9) np (o := .lst ([V.ref p1, V.ref p2, V.ref p3, V.ref p4, V.ref p5, V.ref pa] ++ (ws ++ [V.ref pb, V.ref p7, V.ref p8, V.ref p9])))
    have f8 := s9.trans f9
    have f7 := s8.trans f8
    have fb := s7.trans f7
    have f6 := sb.trans fb
    have fa := s6.trans f6
    have f5 := sa.trans fa
    have f4 := s5.trans f5
    have f3 := s4.trans f4
    have f2 := s3.trans f3
    have f1 := s2.trans f2
    refine q p _ _ (((((((((((s1.trans s2).trans s3).trans s4).trans s5).trans sa).trans s6).trans sb).trans s7).trans s8).trans s9).free np) (s1.trans f1) upd_same ?_
    exact InsVs.app (.cons (r1.same f1) (.cons (r2.same f2) (.cons (r3.same f3) (.cons (r4.same f4) (.cons (r5.same f5) (.cons (ra.same fa) .nil)))))) ((r6.same f6).app (.cons (rb.same fb) (.cons (r7.same f7) (.cons (r8.same f8) (.cons (r9.same f9) .nil)))))
end

theorem FnOk.calm {P : Program} {w : World} {K : PySem.W.Frag} {mg : Str → Option Value} {base : Heap} {k : Nat} {f : Addr} {fd : FuncData} {ps : List Str} {sp : Sp} (F : FnOk P w K mg base (L2.CX P w) k f fd ps sp) : FnOk P w K mg base CX0 k f fd ps (fun vs H Q _ => sp vs H Q E0) :=
  ⟨fun vs H Q _ q => F.len vs H Q E0 q, fun A outer s H args us vs Q E hr he hb hv hs => codeAny_mono (F.run A outer s H args us vs Q E0 hr he hb hv hs) fun r s' h => by
    match r, h with
    | .ok (.ret u), h => exact h
    | .ok .next, h => exact h.elim
    | .ok .brk, h => exact h.elim
    | .ok .cont, h => exact h.elim
    | .error e, h =>
      obtain ⟨_, _, _, _, _, _, _, _, _, _, _, _, z⟩ := h
      exact z.elim⟩
def wtAb : Nat → Ar → Bool
  | f, .n _ => decide (f < 8)
  | f, .s _ _ => decide (f = 8)
def wtSb : List Nat → List Ar → Bool
  | [], [] => true
  | f :: fs, x :: xs => wtAb f x && wtSb fs xs
  | _, _ => false
theorem wtS_of : ∀ {fs : List Nat} {xs : List Ar}, wtSb fs xs = true → wtS fs xs
  | [], [], _ => trivial
  | f :: fs, x :: xs, h => by
    have h : (wtAb f x && wtSb fs xs) = true := h
    rw [Bool.and_eq_true] at h
    refine ⟨?_, wtS_of h.2⟩
    cases x with
    | n x => exact (show f < 8 from of_decide_eq_true h.1)
    | s b x => exact (show f = 8 from of_decide_eq_true h.1)
  | [], _ :: _, h => nomatch h
  | _ :: _, [], h => nomatch h
def okIb (r : Ins) : Bool := decide (r.1 < 29) && (wtSb (fm r.1) r.2 && okS (fm r.1) r.2)
theorem okI_of {r : Ins} (h : okIb r = true) : okI r := by
  unfold okIb at h
  rw [Bool.and_eq_true, Bool.and_eq_true] at h
  exact ⟨of_decide_eq_true h.1, wtS_of h.2.1, h.2.2⟩
theorem spill_ok : ∀ n : _root_.Fin 33, (spillI n.val).all okIb = true := by decide +kernel
theorem fill_ok : ∀ n : _root_.Fin 33, (fillI n.val).all okIb = true := by decide +kernel
theorem all_ok {rs : List Ins} (h : rs.all okIb = true) : ∀ r ∈ rs, okI r := fun r hr => okI_of (List.all_eq_true.mp h r hr)
def encI (r : Ins) : Int := encV r.1 r.2
def spEncI (K : PySem.W.Frag) : Sp := fun vs H Q _ => ∃ (ip : Addr) (r : Ins), vs = [.ref ip] ∧ insR K H ip r ∧ okI r ∧ ∀ H', Same H H' → Q (.int (encI r)) H'
def spTrap (K : PySem.W.Frag) : Sp := fun vs H Q _ => ∃ n : Nat, n ≤ 32 ∧ vs = [.int n] ∧ ∀ p c0 c1 H', Same H H' → SqT K H' p [.ref c0, .ref c1] → SqT K H' c0 (((spillI n).map encI).map V.int) → SqT K H' c1 (((fillI n).map encI).map V.int) → Q (.ref p) H'
section
variable {P : Program} {w : World} {K : PySem.W.Frag} {mg : Str → Option Value} {base : Heap} {a : Ad}
theorem ok_encI (T : Txt w K mg a) : FnOk P w K mg base CX0 3 a.f_encode a.d_encode ["instruction"] (spEncI K) :=
  (FnOk.calm (ok_encode T)).imp fun vs H Q E h => by
    obtain ⟨ip, r, rfl, ⟨ws, h1, h2⟩, ⟨o1, o2, o3⟩, q⟩ := h
    exact ⟨ip, r.1, ws, r.2, o1, rfl, h1, h2, o2, fun H' s => ⟨fun _ => q H' s, fun z => by rw [o3] at z; cases z⟩⟩
theorem ok_trap_code (T : Txt w K mg a) : FnOk P w K mg base CX0 4 a.f_trap_code a.d_trap_code ["windows"] (spTrap K) := by
  have G_encode : FnOk P w K mg base CX0 3 _ _ _ _ := ok_encI T
  have G_spill : FnOk P w K mg base CX0 2 _ _ _ _ := ok_spill T
  have G_fill : FnOk P w K mg base CX0 2 _ _ _ _ := ok_fill T
  refine T.F_trap_code.ok sc_trap_code (fun vs H Q E h => ?_) (fun cdv A outer s H vs Q E hr h => ?_)
  · obtain ⟨_, _, rfl, _⟩ := h; rfl
  · obtain ⟨n, hn, rfl, q⟩ := h
    refine ⟨_, (pss_one (ps_ret (pe_tup (pa_cons (pe_callTy call_tuple_of (by rfl) T.b_tuple (by decide +kernel) (pa_cons (pe_lc (own := [("one", 1)]) (g := gName 1) rfl sc_trap_code.nd (pi_list (pe_call G_spill (hr.mono (by decide)) rfl T.g__spill T.k__spill T.bd__spill .nil pass0 (pa_cons (pv 0) pa_nil))) (blkOk_by (own := [("one", 1)]) (N := ["windows", "one"]) (sc := defScope s_trap_code) (by decide +kernel)) (fun _ _ _ _ _ => pg_name (i := 1) sc_trap_code.nd rfl (Or.inl rfl)) (fun _ _ _ _ _ => pts_nil) (fun _ _ _ _ _ => (pe_call G_encode (hr.mono (by decide)) rfl T.g_encode T.k_encode T.bd_encode .nil pass0 (pa_cons (pv 1) pa_nil)))) pa_nil)) (pa_cons (pe_callTy call_tuple_of (by rfl) T.b_tuple (by decide +kernel) (pa_cons (pe_lc (own := [("one", 1)]) (g := gName 1) rfl sc_trap_code.nd (pi_list (pe_call G_fill (hr.mono (by decide)) rfl T.g__fill T.k__fill T.bd__fill .nil pass0 (pa_cons (pv 0) pa_nil))) (blkOk_by (own := [("one", 1)]) (N := ["windows", "one"]) (sc := defScope s_trap_code) (by decide +kernel)) (fun _ _ _ _ _ => pg_name (i := 1) sc_trap_code.nd rfl (Or.inl rfl)) (fun _ _ _ _ _ => pts_nil) (fun _ _ _ _ _ => (pe_call G_encode (hr.mono (by decide)) rfl T.g_encode T.k_encode T.bd_encode .nil pass0 (pa_cons (pv 1) pa_nil)))) pa_nil)) pa_nil))))), ?_⟩
    have ok1 := all_ok (spill_ok ⟨n, by omega⟩)
    have ok2 := all_ok (fill_ok ⟨n, by omega⟩)
    refine ⟨_, rfl, n, rfl, fun p ws H1 np s1 hp hw => ?_⟩
    refine ⟨p, rfl, ⟨_, SqL.of hp⟩, fun D nD => ?_⟩
    refine lc_list (K := K) (a := p) (xs := ws) (fun i H' => Same H1 H' ∧ H' D = some (.lst ((((spillI n).take i).map encI).map V.int))) ⟨sN (Same.refl H1) nD, upd_same⟩ (fun i H' _ h => SqL.of (h.1 _ _ hp)) ?_ ?_
    · rintro i v H2 hv ⟨s2, hD⟩
      obtain ⟨ip, r, rfl, hr1, hr2⟩ := (hw.same s2).get hv
      have hi : i < (spillI n).length := (List.getElem?_eq_some_iff.mp hr1).1
      refine ⟨rfl, _, rfl, ip, r, rfl, hr2, ok1 r (List.mem_of_getElem? hr1), fun H3 s3 => ⟨_, s3 _ _ hD, ?_, sUpd (s2.trans s3) nD, ?_⟩⟩
      · have : (spillI n).length = 24 := rfl
        exact sz (by rw [List.length_map, List.length_map, List.length_take]; omega)
      · rw [upd_same, List.take_succ, hr1]
        simp
    rintro H2 ⟨s2, hD⟩
    have e1 : ws.length = (spillI n).length := hw.len
    rw [e1, List.take_length] at hD
    refine ⟨D, _, rfl, .inl ⟨SqL.of hD, fun c0 n0 => ?_⟩⟩
    have s3 := sN (Same.refl H2) n0 (o := .tup (((spillI n).map encI).map V.int))
    have h0 : upd H2 c0 (.tup (((spillI n).map encI).map V.int)) c0 = some (.tup (((spillI n).map encI).map V.int)) := upd_same
    have sa := (s1.trans s2).trans s3
    generalize upd H2 c0 (.tup (((spillI n).map encI).map V.int)) = H3 at s3 h0 sa ⊢
    clear hD s2 hp hw nD n0 e1 s1 np
    refine ⟨_, rfl, n, rfl, fun p ws H4 np s4 hp hw => ?_⟩
    have h0 := s4 _ _ h0
    have sa := sa.trans s4
    refine ⟨p, rfl, ⟨_, SqL.of hp⟩, fun D nD => ?_⟩
    refine lc_list (K := K) (a := p) (xs := ws) (fun i H' => Same H4 H' ∧ H' D = some (.lst ((((fillI n).take i).map encI).map V.int))) ⟨sN (Same.refl H4) nD, upd_same⟩ (fun i H' _ h => SqL.of (h.1 _ _ hp)) ?_ ?_
    · rintro i v H2 hv ⟨s2, hD⟩
      obtain ⟨ip, r, rfl, hr1, hr2⟩ := (hw.same s2).get hv
      have hi : i < (fillI n).length := (List.getElem?_eq_some_iff.mp hr1).1
      refine ⟨rfl, _, rfl, ip, r, rfl, hr2, ok2 r (List.mem_of_getElem? hr1), fun H3 s3 => ⟨_, s3 _ _ hD, ?_, sUpd (s2.trans s3) nD, ?_⟩⟩
      · have : (fillI n).length = 26 := rfl
        exact sz (by rw [List.length_map, List.length_map, List.length_take]; omega)
      · rw [upd_same, List.take_succ, hr1]
        simp
    rintro H2 ⟨s2, hD⟩
    have e1 : ws.length = (fillI n).length := hw.len
    rw [e1, List.take_length] at hD
    refine ⟨D, _, rfl, .inl ⟨SqL.of hD, fun c1 n1 => ?_⟩⟩
    have s3 := sN (Same.refl H2) n1 (o := .tup (((fillI n).map encI).map V.int))
    have h1 : upd H2 c1 (.tup (((fillI n).map encI).map V.int)) c1 = some (.tup (((fillI n).map encI).map V.int)) := upd_same
    generalize upd H2 c1 (.tup (((fillI n).map encI).map V.int)) = H5 at s3 h1 ⊢
    have sa := (sa.trans s2).trans s3
    have h0 := s3 _ _ (s2 _ _ h0)
    refine ⟨(by show 2 ≤ sizeLine; decide), fun t nt => ?_⟩
    have s6 := sN (Same.refl H5) nt (o := .tup [V.ref c0, V.ref c1])
    exact q t c0 c1 _ (sa.trans s6) (SqT.of upd_same) (SqT.of (s6 _ _ h0)) (SqT.of (s6 _ _ h1))
end
/-! ### the law's rows -/
def spWords (K : PySem.W.Frag) : Sp := fun vs H Q _ => ∃ (t p : Addr) (ws : List V) (rs : List Ins), vs = [.ref t, .ref p] ∧ SqT K H t ((rs.map encI).map V.int) ∧ H p = some (.lst ws) ∧ InsVs K H ws rs ∧ (∀ r ∈ rs, okI r) ∧ rs.length ≤ 100 ∧ ∀ H', Same H H' → Q (.bl true) H'
def spIsI : Sp := fun vs H Q _ => ∃ n : Int, vs = [.int n] ∧ Q (.bl true) H
section
variable {P : Program} {w : World} {K : PySem.W.Frag} {mg : Str → Option Value} {base : Heap} {a : Ad}
theorem ok_law_is_integer (T : Txt w K mg a) : FnOk P w K mg base CX0 1 a.f_law_is_integer a.d_law_is_integer ["actual"] spIsI := by
  refine T.F__law_is_integer.ok sc_law_is_integer (fun vs H Q E h => ?_) (fun cdv A outer s H vs Q E hr h => ?_)
  · obtain ⟨_, rfl, _⟩ := h; rfl
  · obtain ⟨n, rfl, q⟩ := h
    refine ⟨_, (pss_one (ps_ret (pe_and (pe_callB call_isi (by rfl) T.b_isinstance (by decide +kernel) (pa_cons (pv 0) (pa_cons (pe_bltn (v := .ty "int") (by rfl) T.b_int (by decide +kernel) rfl) pa_nil))) (pe_one (pe_not (pe_callB call_isi (by rfl) T.b_isinstance (by decide +kernel) (pa_cons (pv 0) (pa_cons (pe_bltn (v := .ty "bool") (by rfl) T.b_bool (by decide +kernel) rfl) pa_nil)))))))), ?_⟩
    refine ⟨_, rfl, _, _, _, _, _, rfl, .ty _, .base (.int _), kit_ty (by decide +kernel : kitB "int" "int" = some true), _, rfl, iteT ?_⟩
    exact ⟨_, rfl, _, _, _, _, _, rfl, .ty _, .base (.int _), kit_ty (by decide +kernel : kitB "int" "bool" = some false), _, rfl, q⟩
theorem ok_law_words (T : Txt w K mg a) : FnOk P w K mg base CX0 4 a.f_law_words a.d_law_words ["told", "rows"] (spWords K) := by
  have G_encode : FnOk P w K mg base CX0 3 _ _ _ _ := ok_encI T
  have G_law_is_integer : FnOk P w K mg base CX0 1 _ _ _ _ := ok_law_is_integer T
  refine T.F__law_words.ok sc_law_words (fun vs H Q E h => ?_) (fun cdv A outer s H vs Q E hr h => ?_)
  · obtain ⟨_, _, _, _, rfl, _⟩ := h; rfl
  · obtain ⟨t, p, ws, rs, rfl, ht, hp, hw, hok, hl, q⟩ := h
    refine ⟨_, (pss_cons (ps_if (PW.pt (pw_or (pt_not (pt_val (pe_callB call_isi (by rfl) T.b_isinstance (by decide +kernel) (pa_cons (pv 0) (pa_cons (pe_bltn (v := .ty "tuple") (by rfl) T.b_tuple (by decide +kernel) rfl) pa_nil))))) (pw_or1 (pt_cmpR op_ne (pe_callB call_len_seq (by rfl) T.b_len (by decide +kernel) (pa_cons (pv 0) pa_nil)) (pe_callB call_len_seq (by rfl) T.b_len (by decide +kernel) (pa_cons (pv 1) pa_nil)) (nomark _))))) (pss_one (ps_ret pe_bl)) pss_nil)
      (pss_cons (ps_for PassesOwn.never rfl (pi_range1 rfl T.b_range (pa_cons (pe_callB call_len_seq (by rfl) T.b_len (by decide +kernel) (pa_cons (pv 1) pa_nil)) pa_nil)) (pg_name (i := 2) sc_law_words.nd rfl (Or.inl rfl)) (pss_one (ps_if (PW.pt (pw_or (pt_not (pt_val (pe_call G_law_is_integer (hr.mono (by decide)) rfl T.g__law_is_integer T.k__law_is_integer T.bd__law_is_integer .nil pass0 (pa_cons (pe_ix ix_tup (pv 0) (pv 2) (fun _ _ => rfl)) pa_nil)))) (pw_or1 (pt_cmpR op_ne (pe_ix ix_tup (pv 0) (pv 2) (fun _ _ => rfl)) (pe_call G_encode (hr.mono (by decide)) rfl T.g_encode T.k_encode T.bd_encode .nil pass0 (pa_cons (pe_ix ix_list (pv 1) (pv 2) (fun _ _ => rfl)) pa_nil)) (nomark _))))) (pss_one (ps_ret pe_bl)) pss_nil)))
      (pss_one (ps_ret pe_bl)))), ?_⟩
    have lw := hw.len
    refine ⟨_, rfl, _, _, _, _, _, rfl, .ty _, tyx_tup ht, kit_ty (by decide +kernel : kitB "tuple" "tuple" = some true), _, rfl, iteF ?_⟩
    refine ⟨_, rfl, _, _, rfl, .inr ht, _, rfl, _, _, rfl, .inl (SqL.of hp), rfl, _, rfl, ?_⟩
    rw [show (!decide (V.int ((List.map V.int (List.map encI rs)).length : Int) = V.int (ws.length : Int))) = false by rw [List.length_map, List.length_map, lw]; simp]
    refine iteF ?_
    refine ⟨_, rfl, _, _, rfl, .inl (SqL.of hp), _, rfl, by omega, by omega, ?_⟩
    refine for_range (lo := 0) (n := (ws.length : Int).toNat) (fun i σ H' => Same H H' ∧ ∃ x, σ = [some (.ref t), some (.ref p), x]) ⟨Same.refl H, none, rfl⟩ ?_ ?_
    · rintro i σ H1 hi ⟨s1, x, rfl⟩
      have hi : i < ws.length := by omega
      obtain ⟨v, hv⟩ : ∃ v, ws[i]? = some v := ⟨_, List.getElem?_eq_getElem hi⟩
      obtain ⟨ip, r, rfl, hr1, hr2⟩ := (hw.same s1).get hv
      have em : ((rs.map encI).map V.int)[i]? = some (.int (encI r)) := by rw [List.getElem?_map, List.getElem?_map, hr1]; rfl
      rw [show (0 : Int) + (i : Int) = (i : Int) from Int.zero_add _]
      refine ⟨_, rfl, _, rfl, _, _, _, _, rfl, rfl, seqT s1 ht, atI_nat em, _, rfl, _, rfl, iteF ?_⟩
      refine ⟨_, rfl, _, rfl, _, _, _, _, rfl, rfl, seqT s1 ht, atI_nat em, ?_⟩
      refine ⟨_, rfl, _, rfl, _, _, _, _, rfl, rfl, SqL.of (s1 _ _ hp), atI_nat hv, ip, r, rfl, hr2, hok r (List.mem_of_getElem? hr1), fun H2 s2 => ⟨rfl, _, rfl, ?_⟩⟩
      rw [show (!decide (V.int (encI r) = V.int (encI r))) = false by simp]
      exact iteF ⟨s1.trans s2, _, rfl⟩
    · rintro σ H1 ⟨s1, x, rfl⟩
      exact q H1 s1
end

theorem lSet_in {t : TA} {K : PySem.W.Frag} {σ : St} {H : Hp} {Q : VK} (h : t σ H fun vs H1 => vs.length ≤ sizeLine ∧ ∀ p, H1 p = none → Q (.ref p) (upd H1 p (.lst vs))) : tLst t σ H Q := h
section
variable {P : Program} {w : World} {K : PySem.W.Frag} {mg : Str → Option Value} {base : Heap} {a : Ad}
theorem ok_law_spill (T : Txt w K mg a) : FnOk P w K mg base CX0 1 a.f_law_spill a.d_law_spill ["windows"] (spRows K spillI) := by
  refine T.F__law_spill.ok sc_law_spill (fun vs H Q E h => ?_) (fun cdv A outer s H vs Q E hr h => ?_)
  · obtain ⟨_, rfl, _⟩ := h; rfl
  · obtain ⟨n, rfl, q⟩ := h
    refine ⟨_, (C8.pss_cut (ps_set (i := 1) sc_law_spill.nd rfl (Or.inl rfl) (pe_lst (pa_cons (pe_tup (pa_cons pe_str (pa_cons pe_int pa_nil))) (pa_cons (pe_tup (pa_cons pe_str (pa_cons pe_int (pa_cons pe_int (pa_cons (pe_tup (pa_cons pe_str (pa_cons pe_int pa_nil))) pa_nil))))) (pa_cons (pe_tup (pa_cons pe_str (pa_cons pe_int (pa_cons pe_int (pa_cons (pe_tup (pa_cons pe_str (pa_cons (pv 0) pa_nil))) pa_nil))))) (pa_cons (pe_tup (pa_cons pe_str (pa_cons (pe_tup (pa_cons pe_str (pa_cons (pe_un un_neg pe_int) pa_nil))) pa_nil))) pa_nil))))))
      (C8.pss_cut (ps_expr (pe_bm PySem.F.plainAttrs_list PySem.F.slot_list_append PySem.F.type_list_append mt_append (pv 1) (pa_cons (pe_tup (pa_cons pe_str (pa_cons pe_int (pa_cons pe_int (pa_cons (pe_tup (pa_cons pe_str (pa_cons pe_int pa_nil))) pa_nil))))) pa_nil)))
      (C8.pss_cut (ps_for PassesOwn.never rfl (pi_range1 rfl T.b_range (pa_cons pe_int pa_nil)) (pg_name (i := 2) sc_law_spill.nd rfl (Or.inl rfl)) (pss_one (ps_expr (pe_bm PySem.F.plainAttrs_list PySem.F.slot_list_append PySem.F.type_list_append mt_append (pv 1) (pa_cons (pe_tup (pa_cons pe_str (pa_cons (pe_op op_add pe_int (pv 2)) (pa_cons pe_int (pa_cons (pe_tup (pa_cons pe_str (pa_cons (pv 2) pa_nil))) pa_nil))))) pa_nil)))))
      (pss_one (ps_ret (pe_op op_cat (pv 1) (pe_lst (pa_cons (pe_tup (pa_cons pe_str pa_nil)) (pa_cons (pe_tup (pa_cons pe_str (pa_cons (pe_tup (pa_cons pe_str (pa_cons pe_int pa_nil))) pa_nil))) (pa_cons (pe_tup (pa_cons pe_str pa_nil)) pa_nil)))))))))), ?_⟩
    refine ⟨fun σ H' => ∃ p ws, H p = none ∧ Same H H' ∧ H' p = some (.lst ws) ∧ InsVs K H' ws ((spillI n).take 4) ∧ σ = [some (.int n), some (.ref p), none], ?_, ?_⟩
    · refine tLst_2 ?_
      refine tCons_in (rw1 (k := 26) (K := K) rfl fun p1 H1 s1 r1 => ?_)
      refine tCons_in (rw3 (k := 2) (K := K) (b := true) rfl rfl (fun _ _ q => q) fun p2 H2 s2 r2 => ?_)
      refine tCons_in (rw3 (k := 5) (K := K) (b := true) (v := (n : Int)) rfl rfl (fun _ _ q => ⟨_, rfl, q⟩) fun p3 H3 s3 r3 => ?_)
      refine tCons_in (rwS (k := 27) (K := K) (b := true) (v := -1) rfl rfl (fun _ _ q => ⟨_, rfl, q⟩) fun p4 H4 s4 r4 => ?_)
      refine ⟨(by show 4 ≤ sizeLine; decide), fun p np => ?_⟩
      have f4 := sN (Same.refl H4) np (o := .lst [V.ref p1, V.ref p2, V.ref p3, V.ref p4])
      have f3 := s4.trans f4
      have f2 := s3.trans f3
      have f1 := s2.trans f2
      exact ⟨p, _, (((s1.trans s2).trans s3).trans s4).free np, s1.trans f1, upd_same, .cons (r1.same f1) (.cons (r2.same f2) (.cons (r3.same f3) (.cons (r4.same f4) .nil))), rfl⟩
    rintro σ H1 ⟨p, ws, np, s1, hp, hw, rfl⟩
    have lw : ws.length = 4 := hw.len
    refine ⟨fun σ H' => ∃ ws, Same H H' ∧ H' p = some (.lst ws) ∧ InsVs K H' ws ((spillI n).take 5) ∧ σ = [some (.int n), some (.ref p), none], ?_, ?_⟩
    · refine ⟨_, rfl, .inl ⟨rfl, _, SqL.of hp⟩, ?_⟩
      refine tCons_in (rw3 (k := 16) (K := K) (b := true) rfl rfl (fun _ _ q => q) fun p1 H2 s2 r1 => ?_)
      have hp2 := s2 _ _ hp
      refine ⟨p, _, _, rfl, rfl, hp2, sz (by omega), _, sUpd (s1.trans s2) np, upd_same, ?_, rfl⟩
      exact ((hw.same s2).kt (KT.put hp2)).app (.cons (r1.kt (KT.put hp2)) .nil)
    clear hp hw lw s1
    rintro σ H1 ⟨ws, s1, hp, hw, rfl⟩
    refine ⟨fun σ H' => ∃ ws x, Same H H' ∧ H' p = some (.lst ws) ∧ InsVs K H' ws ((spillI n).take 5 ++ movesI 12 16) ∧ σ = [some (.int n), some (.ref p), x], ?_, ?_⟩
    · refine ⟨_, rfl, by decide, by decide, ?_⟩
      refine for_range (lo := 0) (n := (16 : Int).toNat) (fun i σ H' => ∃ ws x, Same H H' ∧ H' p = some (.lst ws) ∧ InsVs K H' ws ((spillI n).take 5 ++ movesI 12 i) ∧ σ = [some (.int n), some (.ref p), x]) ⟨ws, none, s1, hp, (by rw [show movesI 12 0 = [] from rfl, List.append_nil]; exact hw), rfl⟩ ?_ (fun σ H' h => h)
      clear hp hw s1
      rintro i σ H1 hi ⟨ws, x, s1, hp, hw, rfl⟩
      have lw : ws.length = 5 + i := by
        have := hw.len
        rw [this, List.length_append]
        unfold movesI
        rw [List.length_map, List.length_range]
        rfl
      have hi : i < 16 := hi
      rw [show (0 : Int) + (i : Int) = (i : Int) from Int.zero_add _]
      refine ⟨_, rfl, .inl ⟨rfl, _, SqL.of hp⟩, ?_⟩
      refine ⟨_, rfl, _, _, rfl, rfl, _, rfl, (by show 2 ≤ sizeLine; decide), fun t nt => ⟨(by show 4 ≤ sizeLine; decide), fun u nu => ?_⟩⟩
      have s3 := sN (sN (Same.refl H1) nt (o := .tup [V.str "int", V.int (i : Int)])) nu (o := .tup [V.str "store", V.int (16 + (i : Int)), V.int 14, V.ref t])
      have hr : insR K (upd (upd H1 t (.tup [V.str "int", V.int (i : Int)])) u (.tup [V.str "store", V.int (16 + (i : Int)), V.int 14, V.ref t])) u (12, [.n (16 + (i : Int)), .n 14, .s true (i : Int)]) := ⟨_, SqT.of upd_same, .cons (.n _) (.cons (.n _) (.cons (.s (SqT.of (sN (Same.refl _) nu _ _ upd_same))) .nil))⟩
      have hp2 := s3 _ _ hp
      refine ⟨p, _, _, rfl, rfl, hp2, sz (by omega), _, _, sUpd (s1.trans s3) np, upd_same, ?_, rfl⟩
      rw [movesI_succ, ← List.append_assoc]
      exact ((hw.same s3).kt (KT.put hp2)).app (.cons (hr.kt (KT.put hp2)) .nil)
    clear hp hw s1
    rintro σ H1 ⟨ws, x, s1, hp, hw, rfl⟩
    have lw : ws.length = 21 := hw.len
    refine ⟨_, rfl, ?_⟩
    refine tLst_2 ?_
    refine tCons_in (rw0 (k := 17) (K := K) rfl fun p7 H7 s7 r7 => ?_)
    refine tCons_in (rwS (k := 27) (K := K) (b := false) rfl rfl (fun _ _ q => q) fun p8 H8 s8 r8 => ?_)
    refine tCons_in (rw0 (k := 28) (K := K) rfl fun p9 H9 s9 r9 => ?_)
    refine ⟨(by show 3 ≤ sizeLine; decide), fun l nl => ?_⟩
    have f9 := sN (Same.refl H9) nl (o := .lst [V.ref p7, V.ref p8, V.ref p9])
    have f8 := s9.trans f9
    have f7 := s8.trans f8
    have f6 := s7.trans f7
    have hp2 := f6 _ _ hp
    refine ⟨p, l, _, _, rfl, rfl, hp2, upd_same, (by simp [lw]; decide), fun r nr => ?_⟩
    have g := sN (Same.refl _) nr (o := .lst (ws ++ [V.ref p7, V.ref p8, V.ref p9]))
    refine q r _ _ ((s1.trans f6).free nr) (s1.trans (f6.trans g)) upd_same ?_
    have e : spillI n = ((spillI n).take 5 ++ movesI 12 16) ++ [(17, []), (27, [.s false 20]), (28, [])] := rfl
    rw [e]
    exact (hw.same (f6.trans g)).app (.cons (r7.same (f7.trans g)) (.cons (r8.same (f8.trans g)) (.cons (r9.same (f9.trans g)) .nil)))
end

section
variable {P : Program} {w : World} {K : PySem.W.Frag} {mg : Str → Option Value} {base : Heap} {a : Ad}
theorem ok_law_fill (T : Txt w K mg a) : FnOk P w K mg base CX0 1 a.f_law_fill a.d_law_fill ["windows"] (spRows K fillI) := by
  refine T.F__law_fill.ok sc_law_fill (fun vs H Q E h => ?_) (fun cdv A outer s H vs Q E hr h => ?_)
  · obtain ⟨_, rfl, _⟩ := h; rfl
  · obtain ⟨n, rfl, q⟩ := h
    refine ⟨_, (C8.pss_cut (ps_set (i := 1) sc_law_fill.nd rfl (Or.inl rfl) (pe_lst (pa_cons (pe_tup (pa_cons pe_str (pa_cons pe_int pa_nil))) (pa_cons (pe_tup (pa_cons pe_str (pa_cons pe_int (pa_cons pe_int (pa_cons (pe_tup (pa_cons pe_str (pa_cons pe_int pa_nil))) pa_nil))))) (pa_cons (pe_tup (pa_cons pe_str (pa_cons pe_int (pa_cons pe_int (pa_cons (pe_tup (pa_cons pe_str (pa_cons (pv 0) pa_nil))) pa_nil))))) (pa_cons (pe_tup (pa_cons pe_str (pa_cons (pe_tup (pa_cons pe_str (pa_cons (pe_un un_neg pe_int) pa_nil))) pa_nil))) pa_nil))))))
      (C8.pss_cut (ps_set (i := 1) sc_law_fill.nd rfl (Or.inl rfl) (pe_op op_cat (pv 1) (pe_lst (pa_cons (pe_tup (pa_cons pe_str pa_nil)) (pa_cons (pe_tup (pa_cons pe_str pa_nil)) pa_nil)))))
      (C8.pss_cut (ps_for PassesOwn.never rfl (pi_range1 rfl T.b_range (pa_cons pe_int pa_nil)) (pg_name (i := 2) sc_law_fill.nd rfl (Or.inl rfl)) (pss_one (ps_expr (pe_bm PySem.F.plainAttrs_list PySem.F.slot_list_append PySem.F.type_list_append mt_append (pv 1) (pa_cons (pe_tup (pa_cons pe_str (pa_cons (pe_op op_add pe_int (pv 2)) (pa_cons pe_int (pa_cons (pe_tup (pa_cons pe_str (pa_cons (pv 2) pa_nil))) pa_nil))))) pa_nil)))))
      (C8.pss_cut (ps_set (i := 1) sc_law_fill.nd rfl (Or.inl rfl) (pe_op op_cat (pv 1) (pe_lst (pa_cons (pe_tup (pa_cons pe_str (pa_cons pe_int (pa_cons pe_int (pa_cons (pe_tup (pa_cons pe_str (pa_cons pe_int pa_nil))) pa_nil))))) (pa_cons (pe_tup (pa_cons pe_str (pa_cons pe_int (pa_cons pe_int (pa_cons (pe_tup (pa_cons pe_str (pa_cons pe_int pa_nil))) pa_nil))))) pa_nil)))))
      (pss_one (ps_ret (pe_op op_cat (pv 1) (pe_lst (pa_cons (pe_tup (pa_cons pe_str (pa_cons (pe_tup (pa_cons pe_str (pa_cons pe_int pa_nil))) pa_nil))) (pa_cons (pe_tup (pa_cons pe_str pa_nil)) pa_nil)))))))))), ?_⟩
    refine ⟨fun σ H' => ∃ p ws, H p = none ∧ Same H H' ∧ H' p = some (.lst ws) ∧ InsVs K H' ws ((fillI n).take 4) ∧ σ = [some (.int n), some (.ref p), none], ?_, ?_⟩
    · refine tLst_2 ?_
      refine tCons_in (rw1 (k := 26) (K := K) rfl fun p1 H1 s1 r1 => ?_)
      refine tCons_in (rw3 (k := 1) (K := K) (b := true) rfl rfl (fun _ _ q => q) fun p2 H2 s2 r2 => ?_)
      refine tCons_in (rw3 (k := 5) (K := K) (b := true) (v := (n : Int)) rfl rfl (fun _ _ q => ⟨_, rfl, q⟩) fun p3 H3 s3 r3 => ?_)
      refine tCons_in (rwS (k := 27) (K := K) (b := true) (v := -1) rfl rfl (fun _ _ q => ⟨_, rfl, q⟩) fun p4 H4 s4 r4 => ?_)
      refine ⟨(by show 4 ≤ sizeLine; decide), fun p np => ?_⟩
      have f4 := sN (Same.refl H4) np (o := .lst [V.ref p1, V.ref p2, V.ref p3, V.ref p4])
      have f3 := s4.trans f4
      have f2 := s3.trans f3
      have f1 := s2.trans f2
      exact ⟨p, _, (((s1.trans s2).trans s3).trans s4).free np, s1.trans f1, upd_same, .cons (r1.same f1) (.cons (r2.same f2) (.cons (r3.same f3) (.cons (r4.same f4) .nil))), rfl⟩
    rintro σ H1 ⟨p, ws, np, s1, hp, hw, rfl⟩
    have lw : ws.length = 4 := hw.len
    refine ⟨fun σ H' => ∃ p ws, H p = none ∧ Same H H' ∧ H' p = some (.lst ws) ∧ InsVs K H' ws ((fillI n).take 6) ∧ σ = [some (.int n), some (.ref p), none], ?_, ?_⟩
    · refine ⟨_, rfl, ?_⟩
      refine tLst_2 ?_
      refine tCons_in (rw0 (k := 17) (K := K) rfl fun p7 H7 s7 r7 => ?_)
      refine tCons_in (rw0 (k := 17) (K := K) rfl fun p9 H9 s9 r9 => ?_)
      refine ⟨(by show 2 ≤ sizeLine; decide), fun l nl => ?_⟩
      have f9 := sN (Same.refl H9) nl (o := .lst [V.ref p7, V.ref p9])
      have f7 := s9.trans f9
      have f6 := s7.trans f7
      have hp2 := f6 _ _ hp
      refine ⟨p, l, _, _, rfl, rfl, hp2, upd_same, (by simp [lw]; decide), fun r nr => ?_⟩
      have g := sN (Same.refl _) nr (o := .lst (ws ++ [V.ref p7, V.ref p9]))
      exact ⟨r, _, (s1.trans f6).free nr, s1.trans (f6.trans g), upd_same, (hw.same (f6.trans g)).app (.cons (r7.same (f7.trans g)) (.cons (r9.same (f9.trans g)) .nil)), rfl⟩
    clear hp hw lw s1 np
    rintro σ H1 ⟨p, ws, np, s1, hp, hw, rfl⟩
    refine ⟨fun σ H' => ∃ ws x, Same H H' ∧ H' p = some (.lst ws) ∧ InsVs K H' ws ((fillI n).take 6 ++ movesI 11 16) ∧ σ = [some (.int n), some (.ref p), x], ?_, ?_⟩
    · refine ⟨_, rfl, by decide, by decide, ?_⟩
      refine for_range (lo := 0) (n := (16 : Int).toNat) (fun i σ H' => ∃ ws x, Same H H' ∧ H' p = some (.lst ws) ∧ InsVs K H' ws ((fillI n).take 6 ++ movesI 11 i) ∧ σ = [some (.int n), some (.ref p), x]) ⟨ws, none, s1, hp, (by rw [show movesI 11 0 = [] from rfl, List.append_nil]; exact hw), rfl⟩ ?_ (fun σ H' h => h)
      clear hp hw s1
      rintro i σ H1 hi ⟨ws, x, s1, hp, hw, rfl⟩
      have lw : ws.length = 6 + i := by
        have := hw.len
        rw [this, List.length_append]
        unfold movesI
        rw [List.length_map, List.length_range]
        rfl
      have hi : i < 16 := hi
      rw [show (0 : Int) + (i : Int) = (i : Int) from Int.zero_add _]
      refine ⟨_, rfl, .inl ⟨rfl, _, SqL.of hp⟩, ?_⟩
      refine ⟨_, rfl, _, _, rfl, rfl, _, rfl, (by show 2 ≤ sizeLine; decide), fun t nt => ⟨(by show 4 ≤ sizeLine; decide), fun u nu => ?_⟩⟩
      have s3 := sN (sN (Same.refl H1) nt (o := .tup [V.str "int", V.int (i : Int)])) nu (o := .tup [V.str "load", V.int (16 + (i : Int)), V.int 14, V.ref t])
      have hr : insR K (upd (upd H1 t (.tup [V.str "int", V.int (i : Int)])) u (.tup [V.str "load", V.int (16 + (i : Int)), V.int 14, V.ref t])) u (11, [.n (16 + (i : Int)), .n 14, .s true (i : Int)]) := ⟨_, SqT.of upd_same, .cons (.n _) (.cons (.n _) (.cons (.s (SqT.of (sN (Same.refl _) nu _ _ upd_same))) .nil))⟩
      have hp2 := s3 _ _ hp
      refine ⟨p, _, _, rfl, rfl, hp2, sz (by omega), _, _, sUpd (s1.trans s3) np, upd_same, ?_, rfl⟩
      rw [movesI_succ, ← List.append_assoc]
      exact ((hw.same s3).kt (KT.put hp2)).app (.cons (hr.kt (KT.put hp2)) .nil)
    clear hp hw s1
    rintro σ H1 ⟨ws, x, s1, hp, hw, rfl⟩
    have lw : ws.length = 22 := hw.len
    refine ⟨fun σ H' => ∃ p ws, H p = none ∧ Same H H' ∧ H' p = some (.lst ws) ∧ InsVs K H' ws (((fillI n).take 6 ++ movesI 11 16) ++ [(16, [.n 0, .n 0, .s true 0]), (16, [.n 0, .n 0, .s true 0])]) ∧ σ = [some (.int n), some (.ref p), x], ?_, ?_⟩
    · refine ⟨_, rfl, ?_⟩
      refine tLst_2 ?_
      refine tCons_in (rw3 (k := 16) (K := K) (b := true) rfl rfl (fun _ _ q => q) fun p7 H7 s7 r7 => ?_)
      refine tCons_in (rw3 (k := 16) (K := K) (b := true) rfl rfl (fun _ _ q => q) fun p9 H9 s9 r9 => ?_)
      refine ⟨(by show 2 ≤ sizeLine; decide), fun l nl => ?_⟩
      have f9 := sN (Same.refl H9) nl (o := .lst [V.ref p7, V.ref p9])
      have f7 := s9.trans f9
      have f6 := s7.trans f7
      have hp2 := f6 _ _ hp
      refine ⟨p, l, _, _, rfl, rfl, hp2, upd_same, (by simp [lw]; decide), fun r nr => ?_⟩
      have g := sN (Same.refl _) nr (o := .lst (ws ++ [V.ref p7, V.ref p9]))
      exact ⟨r, _, (s1.trans f6).free nr, s1.trans (f6.trans g), upd_same, (hw.same (f6.trans g)).app (.cons (r7.same (f7.trans g)) (.cons (r9.same (f9.trans g)) .nil)), rfl⟩
    clear hp hw lw s1 np
    rintro σ H1 ⟨p, ws, np, s1, hp, hw, rfl⟩
    have lw : ws.length = 24 := hw.len
    refine ⟨_, rfl, ?_⟩
    refine tLst_2 ?_
    refine tCons_in (rwS (k := 27) (K := K) (b := false) rfl rfl (fun _ _ q => q) fun p8 H8 s8 r8 => ?_)
    refine tCons_in (rw0 (k := 28) (K := K) rfl fun p9 H9 s9 r9 => ?_)
    refine ⟨(by show 2 ≤ sizeLine; decide), fun l nl => ?_⟩
    have f9 := sN (Same.refl H9) nl (o := .lst [V.ref p8, V.ref p9])
    have f8 := s9.trans f9
    have f6 := s8.trans f8
    have hp2 := f6 _ _ hp
    refine ⟨p, l, _, _, rfl, rfl, hp2, upd_same, (by simp [lw]; decide), fun r nr => ?_⟩
    have g := sN (Same.refl _) nr (o := .lst (ws ++ [V.ref p8, V.ref p9]))
    refine q r _ _ ((s1.trans f6).free nr) (s1.trans (f6.trans g)) upd_same ?_
    have e : fillI n = (((fillI n).take 6 ++ movesI 11 16) ++ [(16, [.n 0, .n 0, .s true 0]), (16, [.n 0, .n 0, .s true 0])]) ++ [(27, [.s false 20]), (28, [])] := rfl
    rw [e]
    exact (hw.same (f6.trans g)).app (.cons (r8.same (f8.trans g)) (.cons (r9.same (f9.trans g)) .nil))
end

/-! ### the handlers, run by the law -/
inductive Rw where
  | bar
  | setI (x : Int)
  | setR
  | ad (x : Int)
  | sb (x : Int)
  | md (x : Int)
  | sv
  | rs
  | st (i : Nat)
  | ld (i : Nat)
def Rw.toI : Rw → Ins
  | .bar => (26, [.n 19])
  | .setI x => (27, [.s true x])
  | .setR => (27, [.s false 20])
  | .ad x => (1, [.n 20, .n 19, .s true x])
  | .sb x => (2, [.n 20, .n 19, .s true x])
  | .md x => (5, [.n 20, .n 20, .s true x])
  | .sv => (16, [.n 0, .n 0, .s true 0])
  | .rs => (17, [])
  | .st i => (12, [.n (16 + (i : Int)), .n 14, .s true (i : Int)])
  | .ld i => (11, [.n (16 + (i : Int)), .n 14, .s true (i : Int)])
/-- one instruction over banks and a memory; none: a place outside of the memory -/
def step1 (r : Rw) (B : Bk) (M : List Int) : Option (Bk × List Int) :=
  match r with
  | .bar => some (B.wr 19 B.bar, M)
  | .setI x => some (B.sb x, M)
  | .setR => some (B.sb (B.rd 20), M)
  | .ad x => some (B.wr 20 (B.rd 19 + x), M)
  | .sb x => some (B.wr 20 (B.rd 19 - x), M)
  | .md x => if 0 < x then some (B.wr 20 ((B.rd 20 + x) % x), M) else none
  | .sv => some (B.dn, M)
  | .rs => some (B.up, M)
  | .st i => if i < 16 ∧ 0 ≤ B.rd 14 + (i : Int) ∧ B.rd 14 + (i : Int) < M.length then some (B, M.set (B.rd 14 + (i : Int)).toNat (B.rd (16 + i))) else none
  | .ld i => if i < 16 ∧ 0 ≤ B.rd 14 + (i : Int) ∧ B.rd 14 + (i : Int) < M.length then some (B.wr (16 + i) (M.getD (B.rd 14 + (i : Int)).toNat 0), M) else none
def steps : List Rw → Bk → List Int → Option (Bk × List Int)
  | [], B, M => some (B, M)
  | r :: rs, B, M => match step1 r B M with
    | some (B1, M1) => steps rs B1 M1
    | none => none
theorem steps_cons {r : Rw} {rs : List Rw} {B : Bk} {M : List Int} {z : Bk × List Int} (h : steps (r :: rs) B M = some z) : ∃ B1 M1, step1 r B M = some (B1, M1) ∧ steps rs B1 M1 = some z := by
  unfold steps at h
  cases e : step1 r B M with
  | none => rw [e] at h; cases h
  | some y => rw [e] at h; exact ⟨y.1, y.2, rfl, h⟩
section
variable {K : PySem.W.Frag} {H : Hp}
theorem ar_n {ws : List V} {x : Int} (h : ArVs K H ws [.n x]) : ws = [.int x] := by
  cases h with
  | cons a r => cases r; cases a; rfl
theorem ar_s {ws : List V} {b : Bool} {x : Int} (h : ArVs K H ws [.s b x]) : ∃ p, ws = [.ref p] ∧ SqT K H p [.str (fS (kdS b)), .int x] := by
  cases h with
  | cons a r => cases r; cases a with
    | s h => exact ⟨_, rfl, h⟩
theorem ar_nns {ws : List V} {b : Bool} {x y z : Int} (h : ArVs K H ws [.n x, .n y, .s b z]) : ∃ p, ws = [.int x, .int y, .ref p] ∧ SqT K H p [.str (fS (kdS b)), .int z] := by
  cases h with
  | cons a r =>
    cases a
    cases r with
    | cons a r =>
      cases a
      obtain ⟨p, rfl, h⟩ := ar_s r
      exact ⟨p, rfl, h⟩
variable {σ : St} {D : Ends} {i k : Nat} {x : Addr} {ws : List V} {nm : Str} {A B : TS}
theorem tsk (hσ : σ[i]? = some (some (V.ref x))) (hx : SqT K H x (.str (nmS k) :: ws)) (hn : decide (V.str (nmS k) = V.str nm) = false) (h : B D σ H) : tIfS (tTest (tOp rEq (tOp (rIxT K) (tVar i) (tC (V.int 0))) (tC (V.str nm)))) A B D σ H :=
  ⟨_, hσ, _, _, _, _, rfl, rfl, hx, at0, rfl, _, rfl, by rw [hn]; exact iteF h⟩
theorem tst (hσ : σ[i]? = some (some (V.ref x))) (hx : SqT K H x (.str (nmS k) :: ws)) (hn : decide (V.str (nmS k) = V.str nm) = true) (h : A D σ H) : tIfS (tTest (tOp rEq (tOp (rIxT K) (tVar i) (tC (V.int 0))) (tC (V.str nm)))) A B D σ H :=
  ⟨_, hσ, _, _, _, _, rfl, rfl, hx, at0, rfl, _, rfl, by rw [hn]; exact iteT h⟩
end
/-! tuples under a tag of their own -/
open Classical in
noncomputable def rtg (τ : Tg) (H : Hp) : Tg := fun b => if (∃ xs, H b = some (.tup xs)) ∨ (∃ o xs, H b = some (.frz o (.tup xs))) then (7, 0, 0) else τ b
section
variable {τ τ' : Tg} {H H' : Hp} {S : List Nat}
theorem rtg_of {b : Addr} (h : ¬ ((∃ xs, H b = some (.tup xs)) ∨ (∃ o xs, H b = some (.frz o (.tup xs))))) : rtg τ H b = τ b := if_neg h
theorem At.rtg {p : Addr} {o : HO} {x : Nat × Nat × Nat} (h : At τ H p o x) (n1 : ∀ xs, o ≠ .tup xs) (n2 : ∀ u xs, o ≠ .frz u (.tup xs)) : At (rtg τ H) H p o x := by
  refine ⟨h.1, (rtg_of ?_).trans h.2⟩
  rintro (⟨xs, e⟩ | ⟨u, xs, e⟩)
  · rw [h.1] at e; exact n1 xs (Option.some.inj e)
  · rw [h.1] at e; exact n2 u xs (Option.some.inj e)
theorem At.urtg {p : Addr} {o : HO} {x : Nat × Nat × Nat} (h : At (My.rtg τ H) H' p o x) (n : x.1 ≠ 7) : At τ H' p o x := by
  refine ⟨h.1, ?_⟩
  have e := h.2
  by_cases c : (∃ xs, H p = some (.tup xs)) ∨ (∃ o xs, H p = some (.frz o (.tup xs)))
  · rw [show My.rtg τ H p = (7, 0, 0) from if_pos c] at e
    rw [← e] at n
    exact absurd rfl n
  · rw [← rtg_of (τ := τ) c]; exact e
theorem Stp.kt {K : PySem.W.Frag} (s : Stp (My.rtg τ H) τ' S H H') (n : 7 ∉ S) : KT K H H' := fun a xs h => by
  rcases h with (h | ⟨u, h⟩) | h
  · exact .inl (.inl (s.fr _ _ h (by rw [show My.rtg τ H a = (7, 0, 0) from if_pos (.inl ⟨_, h⟩)]; exact n)))
  · exact .inl (.inr ⟨u, s.fr _ _ h (by rw [show My.rtg τ H a = (7, 0, 0) from if_pos (.inr ⟨_, _, h⟩)]; exact n)⟩)
  · exact .inr h
theorem Stp.urtg (s : Stp (My.rtg τ H) (My.rtg τ H) S H H') (n : 7 ∉ S) : Stp τ τ S H H' := by
  refine ⟨fun b o e m => s.fr b o e ?_, fun _ _ => rfl, s.al⟩
  by_cases c : (∃ xs, H b = some (.tup xs)) ∨ (∃ o xs, H b = some (.frz o (.tup xs)))
  · rw [show My.rtg τ H b = (7, 0, 0) from if_pos c]; exact n
  · rw [rtg_of c]; exact m
theorem BW.rtg {C : Addr} {i : Nat} {t : Addr} {B : Bk} (h : BW C τ i H t B) : BW C (My.rtg τ H) i H t B := by
  obtain ⟨dx, gl, wn, wr, x⟩ := h
  exact ⟨dx, gl, wn, wr, x.ob.rtg (fun _ z => nomatch z) (fun _ _ z => nomatch z), x.g.rtg (fun _ z => nomatch z) (fun _ _ z => nomatch z), x.w.rtg (fun _ z => nomatch z) (fun _ _ z => nomatch z), fun k hk => (x.r k hk).rtg (fun _ z => nomatch z) (fun _ _ z => nomatch z)⟩
theorem BW.urtg {C : Addr} {i : Nat} {t : Addr} {B : Bk} (h : BW C (My.rtg τ H) i H' t B) (n : i ≠ 7) : BW C τ i H' t B := by
  obtain ⟨dx, gl, wn, wr, x⟩ := h
  exact ⟨dx, gl, wn, wr, x.ob.urtg n, x.g.urtg n, x.w.urtg n, fun k hk => (x.r k hk).urtg n⟩
end
def spVal (K : PySem.W.Frag) (C : Addr) : Sp := fun vs H Q _ => ∃ (τ : Tg) (i : Nat) (t p : Addr) (B : Bk) (b : Bool) (x : Int), vs = [.ref t, .ref p] ∧ SqT K H p [.str (fS (kdS b)), .int x] ∧ BW C τ i H t B ∧ B.ok ∧ 0 ≤ (if b = true then 0 else x) ∧ (if b = true then 0 else x) < 32 ∧ Q (.int (if b = true then x else B.rd x.toNat)) H
def spHandle (K : PySem.W.Frag) (C : Addr) : Sp := fun vs H Q _ => ∃ (τ : Tg) (t me p : Addr) (B B' : Bk) (M M' : List Int) (ws : List V) (rs : List Rw) (ad : Int), vs = [.ref t, .ref me, .ref p, .int ad] ∧ BW C τ 2 H t B ∧ B.ok ∧ At τ H me (.lst (M.map V.int)) (5, 0, 0) ∧
  At τ H p (.lst ws) (7, 1, 0) ∧ InsVs K H ws (rs.map Rw.toI ++ [(28, [])]) ∧ steps rs B M = some (B', M') ∧ M.length ≤ 900 ∧ ∀ H', BW C τ 2 H' t B'.up → B'.ok → At τ H' me (.lst (M'.map V.int)) (5, 0, 0) → Stp τ τ [2, 5] H H' → Q (.bl (decide (V.int (B'.rd 17) = V.int ad))) H'
section
variable {P : Program} {w : World} {K : PySem.W.Frag} {mg : Str → Option Value} {base : Heap} {a : Ad}
theorem ok_law_value (T : Txt w K mg a) : FnOk P w K mg base CX0 3 a.f_law_value a.d_law_value ["banks", "operand"] (spVal K a.C_Banks) := by
  have G_Banks_read : FnOk P w K mg base CX0 2 _ _ _ _ := ok_Banks_read T
  refine T.F__law_value.ok sc_law_value (fun vs H Q E h => ?_) (fun cdv A outer s H vs Q E hr h => ?_)
  · obtain ⟨_, _, _, _, _, _, _, rfl, _⟩ := h; rfl
  · obtain ⟨τ, i, t, p, B, b, x, rfl, hp, W, o, h0, h1, q⟩ := h
    refine ⟨_, (pss_cons (ps_if (pt_cmpR op_eq (pe_ix ix_tup (pv 1) pe_int (fun _ _ => rfl)) pe_str (nomark _)) (pss_one (ps_ret (pe_ix ix_tup (pv 1) pe_int (fun _ _ => rfl)))) pss_nil)
      (pss_one (ps_ret (pe_meth (pv 0) T.cl_Banks T.m_Banks_read G_Banks_read (hr.mono (by decide)) T.bd_Banks_read .nil pass0 (pa_cons (pe_ix ix_tup (pv 1) pe_int (fun _ _ => rfl)) pa_nil))))), ?_⟩
    refine ⟨_, rfl, _, _, _, _, rfl, rfl, hp, at0, rfl, _, rfl, ?_⟩
    cases b with
    | true =>
      rw [show decide (V.str (fS (kdS true)) = V.str "int") = true by decide +kernel]
      exact iteT ⟨_, rfl, _, _, _, _, rfl, rfl, hp, atI_nat (j := 1) rfl, q⟩
    | false =>
      rw [show decide (V.str (fS (kdS false)) = V.str "int") = false by decide +kernel]
      have h0 : 0 ≤ x := h0
      have h1 : x < 32 := h1
      obtain ⟨dx, gl, wn, wr, Wx⟩ := id W
      obtain ⟨j, rfl⟩ : ∃ j : Nat, x = (j : Int) := ⟨x.toNat, by omega⟩
      exact iteF ⟨_, rfl, t, dx, _, rfl, Wx.ob.1, bkf_no_read _ _ _ _ _ _ _, _, rfl, _, _, _, _, rfl, rfl, hp, atI_nat (j := 1) rfl, τ, i, t, B, j, rfl, W, o, by omega, q⟩
end

section
variable {P : Program} {w : World} {K : PySem.W.Frag} {mg : Str → Option Value} {base : Heap} {a : Ad}
theorem ok_law_handle (T : Txt w K mg a) : FnOk P w K mg base CX0 4 a.f_law_handle a.d_law_handle ["banks", "memory", "rows", "address"] (spHandle K a.C_Banks) := by
  have G_law_value : FnOk P w K mg base CX0 3 _ _ _ _ := ok_law_value T
  have G_Banks_read : FnOk P w K mg base CX0 2 _ _ _ _ := ok_Banks_read T
  have G_Banks_write : FnOk P w K mg base CX0 2 _ _ _ _ := ok_Banks_write T
  have G_Banks_set_bar : FnOk P w K mg base CX0 1 _ _ _ _ := ok_Banks_set_bar T
  have G_Banks_shift_down : FnOk P w K mg base CX0 3 _ _ _ _ := ok_Banks_shift_down T
  have G_Banks_shift_up : FnOk P w K mg base CX0 2 _ _ _ _ := ok_Banks_shift_up T
  have G_Banks_leave_trap : FnOk P w K mg base CX0 3 _ _ _ _ := ok_Banks_leave_trap T
  refine T.F__law_handle.ok sc_law_handle (fun vs H Q E h => ?_) (fun cdv A outer s H vs Q E hr h => ?_)
  · obtain ⟨_, _, _, _, _, _, _, _, _, _, _, rfl, _⟩ := h; rfl
  · obtain ⟨τ, t, me, p, B, B', M, M', ws, rs, ad, rfl, W0, o0, hm0, hp0, hw0, hst0, hM0, q⟩ := h
    refine ⟨_, (pss_cons (ps_for PassesOwn.never rfl (pi_list (pv 2)) (pg_name (i := 4) sc_law_handle.nd rfl (Or.inl rfl)) (pss_one (ps_if (pt_cmpR op_eq (pe_ix ix_tup (pv 4) pe_int (fun _ _ => rfl)) pe_str (nomark _)) (pss_one (ps_expr (pe_meth (pv 0) T.cl_Banks T.m_Banks_write G_Banks_write (hr.mono (by decide)) T.bd_Banks_write .nil pass0 (pa_cons (pe_ix ix_tup (pv 4) pe_int (fun _ _ => rfl)) (pa_cons (pe_fld (pv 0) rfl) pa_nil))))) (pss_one (ps_if (pt_cmpR op_eq (pe_ix ix_tup (pv 4) pe_int (fun _ _ => rfl)) pe_str (nomark _)) (pss_one (ps_expr (pe_meth (pv 0) T.cl_Banks T.m_Banks_set_bar G_Banks_set_bar (hr.mono (by decide)) T.bd_Banks_set_bar .nil pass0 (pa_cons (pe_call G_law_value (hr.mono (by decide)) rfl T.g__law_value T.k__law_value T.bd__law_value .nil pass0 (pa_cons (pv 0) (pa_cons (pe_ix ix_tup (pv 4) pe_int (fun _ _ => rfl)) pa_nil))) pa_nil)))) (pss_one (ps_if (pt_cmpR op_eq (pe_ix ix_tup (pv 4) pe_int (fun _ _ => rfl)) pe_str (nomark _)) (pss_one (ps_expr (pe_meth (pv 0) T.cl_Banks T.m_Banks_write G_Banks_write (hr.mono (by decide)) T.bd_Banks_write .nil pass0 (pa_cons (pe_ix ix_tup (pv 4) pe_int (fun _ _ => rfl)) (pa_cons (pe_op op_add (pe_meth (pv 0) T.cl_Banks T.m_Banks_read G_Banks_read (hr.mono (by decide)) T.bd_Banks_read .nil pass0 (pa_cons (pe_ix ix_tup (pv 4) pe_int (fun _ _ => rfl)) pa_nil)) (pe_ix ix_tup (pe_ix ix_tup (pv 4) pe_int (fun _ _ => rfl)) pe_int (fun _ _ => rfl))) pa_nil))))) (pss_one (ps_if (pt_cmpR op_eq (pe_ix ix_tup (pv 4) pe_int (fun _ _ => rfl)) pe_str (nomark _)) (pss_one (ps_expr (pe_meth (pv 0) T.cl_Banks T.m_Banks_write G_Banks_write (hr.mono (by decide)) T.bd_Banks_write .nil pass0 (pa_cons (pe_ix ix_tup (pv 4) pe_int (fun _ _ => rfl)) (pa_cons (pe_op op_sub (pe_meth (pv 0) T.cl_Banks T.m_Banks_read G_Banks_read (hr.mono (by decide)) T.bd_Banks_read .nil pass0 (pa_cons (pe_ix ix_tup (pv 4) pe_int (fun _ _ => rfl)) pa_nil)) (pe_ix ix_tup (pe_ix ix_tup (pv 4) pe_int (fun _ _ => rfl)) pe_int (fun _ _ => rfl))) pa_nil))))) (pss_one (ps_if (pt_cmpR op_eq (pe_ix ix_tup (pv 4) pe_int (fun _ _ => rfl)) pe_str (nomark _)) (C8.pss_cut (ps_set (i := 5) sc_law_handle.nd rfl (Or.inl rfl) (pe_meth (pv 0) T.cl_Banks T.m_Banks_read G_Banks_read (hr.mono (by decide)) T.bd_Banks_read .nil pass0 (pa_cons (pe_ix ix_tup (pv 4) pe_int (fun _ _ => rfl)) pa_nil)))
      (pss_one (ps_expr (pe_meth (pv 0) T.cl_Banks T.m_Banks_write G_Banks_write (hr.mono (by decide)) T.bd_Banks_write .nil pass0 (pa_cons (pe_ix ix_tup (pv 4) pe_int (fun _ _ => rfl)) (pa_cons (pe_op op_mod (pe_callTy call_int1 (by rfl) T.b_int (by decide +kernel) (pa_cons (pe_op op_add (pv 5) (pe_ix ix_tup (pe_ix ix_tup (pv 4) pe_int (fun _ _ => rfl)) pe_int (fun _ _ => rfl))) pa_nil)) (pe_ix ix_tup (pe_ix ix_tup (pv 4) pe_int (fun _ _ => rfl)) pe_int (fun _ _ => rfl))) pa_nil)))))) (pss_one (ps_if (pt_cmpR op_eq (pe_ix ix_tup (pv 4) pe_int (fun _ _ => rfl)) pe_str (nomark _)) (pss_one (ps_expr (pe_meth0 (pv 0) T.cl_Banks T.m_Banks_shift_down G_Banks_shift_down (hr.mono (by decide)) T.bd_Banks_shift_down .nil pass0))) (pss_one (ps_if (pt_cmpR op_eq (pe_ix ix_tup (pv 4) pe_int (fun _ _ => rfl)) pe_str (nomark _)) (pss_one (ps_expr (pe_meth0 (pv 0) T.cl_Banks T.m_Banks_shift_up G_Banks_shift_up (hr.mono (by decide)) T.bd_Banks_shift_up .nil pass0))) (pss_one (ps_if (pt_cmpR op_eq (pe_ix ix_tup (pv 4) pe_int (fun _ _ => rfl)) pe_str (nomark _)) (pss_one (ps_ret (pe_cmpR op_eq (pe_meth0 (pv 0) T.cl_Banks T.m_Banks_leave_trap G_Banks_leave_trap (hr.mono (by decide)) T.bd_Banks_leave_trap .nil pass0) (pv 3) (nomark _)))) (C8.pss_cut (ps_set (i := 6) sc_law_handle.nd rfl (Or.inl rfl) (pe_op op_add (pe_meth (pv 0) T.cl_Banks T.m_Banks_read G_Banks_read (hr.mono (by decide)) T.bd_Banks_read .nil pass0 (pa_cons (pe_ix ix_tup (pv 4) pe_int (fun _ _ => rfl)) pa_nil)) (pe_ix ix_tup (pe_ix ix_tup (pv 4) pe_int (fun _ _ => rfl)) pe_int (fun _ _ => rfl))))
      (C8.pss_cut (ps_if (PW.pt (pw_or (pt_cmpR op_lt (pv 6) pe_int (nomark _)) (pw_or1 (pt_cmpR op_ge (pv 6) (pe_callB call_len_seq (by rfl) T.b_len (by decide +kernel) (pa_cons (pv 1) pa_nil)) (nomark _))))) (pss_one (ps_ret pe_bl)) pss_nil)
      (pss_one (ps_if (pt_cmpR op_eq (pe_ix ix_tup (pv 4) pe_int (fun _ _ => rfl)) pe_str (nomark _)) (pss_one (ps_asg (pe_meth (pv 0) T.cl_Banks T.m_Banks_read G_Banks_read (hr.mono (by decide)) T.bd_Banks_read .nil pass0 (pa_cons (pe_ix ix_tup (pv 4) pe_int (fun _ _ => rfl)) pa_nil)) (pg_sub (pv 1) (pv 6) set_list))) (pss_one (ps_expr (pe_meth (pv 0) T.cl_Banks T.m_Banks_write G_Banks_write (hr.mono (by decide)) T.bd_Banks_write .nil pass0 (pa_cons (pe_ix ix_tup (pv 4) pe_int (fun _ _ => rfl)) (pa_cons (pe_ix ix_list (pv 1) (pv 6) (fun _ _ => rfl)) pa_nil))))))))))))))))))))))))))
      (pss_one (ps_ret pe_bl))), ?_⟩
    have len0 : ws.length = rs.length + 1 := by rw [hw0.len, List.length_append, List.length_map]; rfl
    have nt : ∀ {o : List V} , ∀ xs : List V, HO.lst o ≠ .tup xs := fun _ z => nomatch z
    have W0 := W0.rtg
    have hm0 := hm0.rtg (fun _ z => nomatch z) (fun _ _ z => nomatch z)
    have hp0 := hp0.rtg (fun _ z => nomatch z) (fun _ _ z => nomatch z)
    have q : ∀ H', BW a.C_Banks (rtg τ H) 2 H' t B'.up → B'.ok → At (rtg τ H) H' me (.lst (M'.map V.int)) (5, 0, 0) → Stp (rtg τ H) (rtg τ H) [2, 5] H H' → Q (.bl (decide (V.int (B'.rd 17) = V.int ad))) H' := fun H' w o m s => q H' (w.urtg (by decide)) o (m.urtg (by decide)) (s.urtg (by decide))
    have kt : ∀ {H' : Hp}, Stp (rtg τ H) (rtg τ H) [2, 5] H H' → KT K H H' := fun s => s.kt (by decide)
    generalize rtg τ H = ρ at *
    refine ⟨_, rfl, p, rfl, ⟨_, SqL.of hp0.1⟩, ?_⟩
    refine for_list (K := K) (a := p) (xs := ws) (fun i σ H' => ∃ B1 M1 x4 x5 x6, steps (rs.drop i) B1 M1 = some (B', M') ∧ BW a.C_Banks ρ 2 H' t B1 ∧ B1.ok ∧ At ρ H' me (.lst (M1.map V.int)) (5, 0, 0) ∧ M1.length ≤ 900 ∧ Stp ρ ρ [2, 5] H H' ∧ i ≤ rs.length ∧ σ = [some (.ref t), some (.ref me), some (.ref p), some (.int ad), x4, x5, x6])
      ⟨B, M, none, none, none, hst0, W0, o0, hm0, hM0, Stp.refl, Nat.zero_le _, rfl⟩ (fun i σ H' _ h => ?_) ?_ ?_
    · obtain ⟨_, _, _, _, _, _, _, _, _, _, F, _, _⟩ := h
      exact SqL.of (hp0.st F (by simp)).1
    · rintro i v σ H1 hv ⟨B1, M1, x4, x5, x6, hst, W, o, hm, hM, F, hi, rfl⟩
      obtain ⟨ip, r, rfl, hr1, hr2⟩ := (hw0.kt (kt F)).get hv
      obtain ⟨us, hx, hu⟩ := hr2
      obtain ⟨dx, gl, wn, wr, Wx⟩ := id W
      have up : ∀ x ∈ [2], x ∈ [2, 5] := by simp
      by_cases c : i < rs.length
      · -- an instruction
        have er : rs.drop i = rs[i] :: rs.drop (i + 1) := List.drop_eq_getElem_cons c
        rw [er] at hst
        obtain ⟨B2, M2, h1, h2⟩ := steps_cons hst
        rw [List.getElem?_append_left (by rw [List.length_map]; exact c), List.getElem?_map, List.getElem?_eq_getElem c] at hr1
        obtain rfl := (Option.some.inj hr1).symm
        generalize rs[i] = r at h1 hx hu
        clear hst hr1 er hv
        cases r with
        | bar =>
          obtain ⟨rfl, rfl⟩ := Prod.mk.inj (Option.some.inj h1)
          obtain rfl := ar_n hu
          refine tst (k := 26) rfl hx (by decide +kernel) ?_
          refine ⟨_, rfl, t, dx, _, rfl, Wx.ob.1, bkf_no_write _ _ _ _ _ _ _, _, rfl, _, _, _, _, rfl, rfl, hx, atI_nat (j := 1) rfl, _, rfl, t, a.C_Banks, dx, _, _, rfl, Wx.ob.1, T.cl_Banks, T.n_Banks_barred, bkf_barred _ _ _ _ _ _ _, ρ, 2, t, B1, 19, B1.bar, rfl, W, o, by decide, fun H2 W2 F2 => ?_⟩
          exact ⟨_, _, _, _, _, h2, W2, o.wr _ _, hm.st F2 (by simp), hM, F.tr (F2.mono up), c, rfl⟩
        | setI x =>
          obtain ⟨rfl, rfl⟩ := Prod.mk.inj (Option.some.inj h1)
          obtain ⟨u, rfl, hu2⟩ := ar_s hu
          refine tsk (k := 27) rfl hx (by decide +kernel) ?_
          refine tst (k := 27) rfl hx (by decide +kernel) ?_
          refine ⟨_, rfl, t, dx, _, rfl, Wx.ob.1, bkf_no_set_bar _ _ _ _ _ _ _, _, rfl, _, rfl, _, _, _, _, rfl, rfl, hx, atI_nat (j := 1) rfl, ρ, 2, t, u, B1, true, x, rfl, hu2, W, o, (by show (0 : Int) ≤ 0; decide), (by show (0 : Int) < 32; decide), ρ, 2, t, B1, x, rfl, W, o, fun H2 W2 F2 => ?_⟩
          exact ⟨_, _, _, _, _, h2, W2, o.sb _, hm.st F2 (by simp), hM, F.tr (F2.mono up), c, rfl⟩
        | setR =>
          obtain ⟨rfl, rfl⟩ := Prod.mk.inj (Option.some.inj h1)
          obtain ⟨u, rfl, hu2⟩ := ar_s hu
          refine tsk (k := 27) rfl hx (by decide +kernel) ?_
          refine tst (k := 27) rfl hx (by decide +kernel) ?_
          refine ⟨_, rfl, t, dx, _, rfl, Wx.ob.1, bkf_no_set_bar _ _ _ _ _ _ _, _, rfl, _, rfl, _, _, _, _, rfl, rfl, hx, atI_nat (j := 1) rfl, ρ, 2, t, u, B1, false, 20, rfl, hu2, W, o, by decide, by decide, ρ, 2, t, B1, B1.rd 20, rfl, W, o, fun H2 W2 F2 => ?_⟩
          exact ⟨_, _, _, _, _, h2, W2, o.sb _, hm.st F2 (by simp), hM, F.tr (F2.mono up), c, rfl⟩
        | ad x =>
          obtain ⟨rfl, rfl⟩ := Prod.mk.inj (Option.some.inj h1)
          obtain ⟨u, rfl, hu2⟩ := ar_nns hu
          refine tsk (k := 1) rfl hx (by decide +kernel) ?_
          refine tsk (k := 1) rfl hx (by decide +kernel) ?_
          refine tst (k := 1) rfl hx (by decide +kernel) ?_
          refine ⟨_, rfl, t, dx, _, rfl, Wx.ob.1, bkf_no_write _ _ _ _ _ _ _, _, rfl, _, _, _, _, rfl, rfl, hx, atI_nat (j := 1) rfl, ?_⟩
          refine ⟨_, rfl, t, dx, _, rfl, Wx.ob.1, bkf_no_read _ _ _ _ _ _ _, _, rfl, _, _, _, _, rfl, rfl, hx, atI_nat (j := 2) rfl, ρ, 2, t, B1, 19, rfl, W, o, by decide, ?_⟩
          refine ⟨_, rfl, _, _, _, _, rfl, rfl, hx, atI_nat (j := 3) rfl, _, _, _, _, rfl, rfl, hu2, atI_nat (j := 1) rfl, _, _, rfl, rfl, ρ, 2, t, B1, 20, _, rfl, W, o, by decide, fun H2 W2 F2 => ?_⟩
          exact ⟨_, _, _, _, _, h2, W2, o.wr _ _, hm.st F2 (by simp), hM, F.tr (F2.mono up), c, rfl⟩
        | sb x =>
          obtain ⟨rfl, rfl⟩ := Prod.mk.inj (Option.some.inj h1)
          obtain ⟨u, rfl, hu2⟩ := ar_nns hu
          refine tsk (k := 2) rfl hx (by decide +kernel) ?_
          refine tsk (k := 2) rfl hx (by decide +kernel) ?_
          refine tsk (k := 2) rfl hx (by decide +kernel) ?_
          refine tst (k := 2) rfl hx (by decide +kernel) ?_
          refine ⟨_, rfl, t, dx, _, rfl, Wx.ob.1, bkf_no_write _ _ _ _ _ _ _, _, rfl, _, _, _, _, rfl, rfl, hx, atI_nat (j := 1) rfl, ?_⟩
          refine ⟨_, rfl, t, dx, _, rfl, Wx.ob.1, bkf_no_read _ _ _ _ _ _ _, _, rfl, _, _, _, _, rfl, rfl, hx, atI_nat (j := 2) rfl, ρ, 2, t, B1, 19, rfl, W, o, by decide, ?_⟩
          refine ⟨_, rfl, _, _, _, _, rfl, rfl, hx, atI_nat (j := 3) rfl, _, _, _, _, rfl, rfl, hu2, atI_nat (j := 1) rfl, _, _, rfl, rfl, ρ, 2, t, B1, 20, _, rfl, W, o, by decide, fun H2 W2 F2 => ?_⟩
          exact ⟨_, _, _, _, _, h2, W2, o.wr _ _, hm.st F2 (by simp), hM, F.tr (F2.mono up), c, rfl⟩
        | md x =>
          have h1 : (if 0 < x then some (B1.wr 20 ((B1.rd 20 + x) % x), M1) else none) = some (B2, M2) := h1
          by_cases c0 : 0 < x
          · rw [if_pos c0] at h1
            obtain ⟨rfl, rfl⟩ := Prod.mk.inj (Option.some.inj h1)
            obtain ⟨u, rfl, hu2⟩ := ar_nns hu
            refine tsk (k := 5) rfl hx (by decide +kernel) ?_
            refine tsk (k := 5) rfl hx (by decide +kernel) ?_
            refine tsk (k := 5) rfl hx (by decide +kernel) ?_
            refine tsk (k := 5) rfl hx (by decide +kernel) ?_
            refine tst (k := 5) rfl hx (by decide +kernel) ?_
            refine ⟨fun σ H' => H1 = H' ∧ σ = [some (.ref t), some (.ref me), some (.ref p), some (.int ad), some (.ref ip), some (.int (B1.rd 20)), x6], ⟨_, rfl, t, dx, _, rfl, Wx.ob.1, bkf_no_read _ _ _ _ _ _ _, _, rfl, _, _, _, _, rfl, rfl, hx, atI_nat (j := 2) rfl, ρ, 2, t, B1, 20, rfl, W, o, by decide, rfl, rfl⟩, ?_⟩
            rintro σ H2 ⟨rfl, rfl⟩
            refine ⟨_, rfl, t, dx, _, rfl, Wx.ob.1, bkf_no_write _ _ _ _ _ _ _, _, rfl, _, _, _, _, rfl, rfl, hx, atI_nat (j := 1) rfl, ?_⟩
            refine ⟨_, rfl, _, rfl, _, _, _, _, rfl, rfl, hx, atI_nat (j := 3) rfl, _, _, _, _, rfl, rfl, hu2, atI_nat (j := 1) rfl, _, _, rfl, rfl, .inl ⟨_, rfl, ?_⟩⟩
            refine ⟨_, rfl, _, _, _, _, rfl, rfl, hx, atI_nat (j := 3) rfl, _, _, _, _, rfl, rfl, hu2, atI_nat (j := 1) rfl, _, _, rfl, rfl, c0, ρ, 2, t, B1, 20, _, rfl, W, o, by decide, fun H2 W2 F2 => ?_⟩
            exact ⟨_, _, _, _, _, h2, W2, o.wr _ _, hm.st F2 (by simp), hM, F.tr (F2.mono up), c, rfl⟩
          · rw [if_neg c0] at h1; cases h1
        | sv =>
          obtain ⟨rfl, rfl⟩ := Prod.mk.inj (Option.some.inj h1)
          refine tsk (k := 16) rfl hx (by decide +kernel) ?_
          refine tsk (k := 16) rfl hx (by decide +kernel) ?_
          refine tsk (k := 16) rfl hx (by decide +kernel) ?_
          refine tsk (k := 16) rfl hx (by decide +kernel) ?_
          refine tsk (k := 16) rfl hx (by decide +kernel) ?_
          refine tst (k := 16) rfl hx (by decide +kernel) ?_
          refine ⟨_, rfl, t, dx, _, rfl, Wx.ob.1, bkf_no_shift_down _ _ _ _ _ _ _, ρ, 2, t, B1, rfl, W, o, fun H2 W2 F2 => ?_⟩
          exact ⟨_, _, _, _, _, h2, W2, o.dn, hm.st F2 (by simp), hM, F.tr (F2.mono up), c, rfl⟩
        | rs =>
          obtain ⟨rfl, rfl⟩ := Prod.mk.inj (Option.some.inj h1)
          refine tsk (k := 17) rfl hx (by decide +kernel) ?_
          refine tsk (k := 17) rfl hx (by decide +kernel) ?_
          refine tsk (k := 17) rfl hx (by decide +kernel) ?_
          refine tsk (k := 17) rfl hx (by decide +kernel) ?_
          refine tsk (k := 17) rfl hx (by decide +kernel) ?_
          refine tsk (k := 17) rfl hx (by decide +kernel) ?_
          refine tst (k := 17) rfl hx (by decide +kernel) ?_
          refine ⟨_, rfl, t, dx, _, rfl, Wx.ob.1, bkf_no_shift_up _ _ _ _ _ _ _, ρ, 2, t, B1, rfl, W, o, fun H2 W2 F2 => ?_⟩
          exact ⟨_, _, _, _, _, h2, W2, o.up, hm.st F2 (by simp), hM, F.tr (F2.mono up), c, rfl⟩
        | st k =>
          have h1 : (if k < 16 ∧ 0 ≤ B1.rd 14 + (k : Int) ∧ B1.rd 14 + (k : Int) < M1.length then some (B1, M1.set (B1.rd 14 + (k : Int)).toNat (B1.rd (16 + k))) else none) = some (B2, M2) := h1
          by_cases c0 : k < 16 ∧ 0 ≤ B1.rd 14 + (k : Int) ∧ B1.rd 14 + (k : Int) < M1.length
          · rw [if_pos c0] at h1
            obtain ⟨rfl, rfl⟩ := Prod.mk.inj (Option.some.inj h1)
            obtain ⟨u, rfl, hu2⟩ := ar_nns hu
            obtain ⟨k16, c1, c2⟩ := c0
            obtain ⟨z, hz⟩ : ∃ z : Nat, B1.rd 14 + (k : Int) = (z : Int) := ⟨(B1.rd 14 + (k : Int)).toNat, by omega⟩
            rw [hz] at h2 c2
            rw [Int.toNat_natCast] at h2
            refine tsk (k := 12) rfl hx (by decide +kernel) ?_
            refine tsk (k := 12) rfl hx (by decide +kernel) ?_
            refine tsk (k := 12) rfl hx (by decide +kernel) ?_
            refine tsk (k := 12) rfl hx (by decide +kernel) ?_
            refine tsk (k := 12) rfl hx (by decide +kernel) ?_
            refine tsk (k := 12) rfl hx (by decide +kernel) ?_
            refine tsk (k := 12) rfl hx (by decide +kernel) ?_
            refine tsk (k := 12) rfl hx (by decide +kernel) ?_
            refine ⟨fun σ H' => H1 = H' ∧ σ = [some (.ref t), some (.ref me), some (.ref p), some (.int ad), some (.ref ip), x5, some (.int z)], ?_, ?_⟩
            · refine ⟨_, rfl, t, dx, _, rfl, Wx.ob.1, bkf_no_read _ _ _ _ _ _ _, _, rfl, _, _, _, _, rfl, rfl, hx, atI_nat (j := 2) rfl, ρ, 2, t, B1, 14, rfl, W, o, by decide, ?_⟩
              refine ⟨_, rfl, _, _, _, _, rfl, rfl, hx, atI_nat (j := 3) rfl, _, _, _, _, rfl, rfl, hu2, atI_nat (j := 1) rfl, _, _, rfl, rfl, rfl, ?_⟩
              show [some (V.ref t), some (V.ref me), some (V.ref p), some (V.int ad), some (V.ref ip), x5, some (V.int (B1.rd 14 + (k : Int)))] = _
              rw [hz]
            rintro σ H2 ⟨rfl, rfl⟩
            refine ⟨fun σ H' => H1 = H' ∧ σ = [some (.ref t), some (.ref me), some (.ref p), some (.int ad), some (.ref ip), x5, some (.int z)], ?_, ?_⟩
            · refine ⟨_, rfl, _, _, rfl, rfl, _, rfl, ?_⟩
              rw [decide_eq_false (show ¬ (z : Int) < 0 by omega)]
              refine iteF ⟨_, rfl, _, rfl, _, _, rfl, .inl (SqL.of hm.1), _, _, rfl, rfl, _, rfl, ?_⟩
              rw [List.length_map, decide_eq_false (show ¬ (M1.length : Int) ≤ (z : Int) by omega)]
              exact iteF ⟨rfl, rfl⟩
            rintro σ H2 ⟨rfl, rfl⟩
            refine tst (k := 12) rfl hx (by decide +kernel) ?_
            refine ⟨_, rfl, t, dx, _, rfl, Wx.ob.1, bkf_no_read _ _ _ _ _ _ _, _, rfl, _, _, _, _, rfl, rfl, hx, atI_nat (j := 1) rfl, ρ, 2, t, B1, 16 + k, (by show [V.ref t, V.int (16 + (k : Int))] = [V.ref t, V.int ((16 + k : Nat) : Int)]; rfl), W, o, by omega, ?_⟩
            refine ⟨_, rfl, _, rfl, _, _, _, _, rfl, rfl, hm.1, ixN_nat (by rw [List.length_map]; omega), ?_⟩
            rw [set_int]
            exact ⟨_, _, _, _, _, h2, W.st ((Stp.refl (S := [5])).put (mem1 hm.2 rfl)) (by simp), o, .set hm.2, by rw [List.length_set]; exact hM, F.put (by rw [hm.2]; simp), c, rfl⟩
          · rw [if_neg c0] at h1; cases h1
        | ld k =>
          have h1 : (if k < 16 ∧ 0 ≤ B1.rd 14 + (k : Int) ∧ B1.rd 14 + (k : Int) < M1.length then some (B1.wr (16 + k) (M1.getD (B1.rd 14 + (k : Int)).toNat 0), M1) else none) = some (B2, M2) := h1
          by_cases c0 : k < 16 ∧ 0 ≤ B1.rd 14 + (k : Int) ∧ B1.rd 14 + (k : Int) < M1.length
          · rw [if_pos c0] at h1
            obtain ⟨rfl, rfl⟩ := Prod.mk.inj (Option.some.inj h1)
            obtain ⟨u, rfl, hu2⟩ := ar_nns hu
            obtain ⟨k16, c1, c2⟩ := c0
            obtain ⟨z, hz⟩ : ∃ z : Nat, B1.rd 14 + (k : Int) = (z : Int) := ⟨(B1.rd 14 + (k : Int)).toNat, by omega⟩
            rw [hz] at h2 c2
            rw [Int.toNat_natCast] at h2
            refine tsk (k := 11) rfl hx (by decide +kernel) ?_
            refine tsk (k := 11) rfl hx (by decide +kernel) ?_
            refine tsk (k := 11) rfl hx (by decide +kernel) ?_
            refine tsk (k := 11) rfl hx (by decide +kernel) ?_
            refine tsk (k := 11) rfl hx (by decide +kernel) ?_
            refine tsk (k := 11) rfl hx (by decide +kernel) ?_
            refine tsk (k := 11) rfl hx (by decide +kernel) ?_
            refine tsk (k := 11) rfl hx (by decide +kernel) ?_
            refine ⟨fun σ H' => H1 = H' ∧ σ = [some (.ref t), some (.ref me), some (.ref p), some (.int ad), some (.ref ip), x5, some (.int z)], ?_, ?_⟩
            · refine ⟨_, rfl, t, dx, _, rfl, Wx.ob.1, bkf_no_read _ _ _ _ _ _ _, _, rfl, _, _, _, _, rfl, rfl, hx, atI_nat (j := 2) rfl, ρ, 2, t, B1, 14, rfl, W, o, by decide, ?_⟩
              refine ⟨_, rfl, _, _, _, _, rfl, rfl, hx, atI_nat (j := 3) rfl, _, _, _, _, rfl, rfl, hu2, atI_nat (j := 1) rfl, _, _, rfl, rfl, rfl, ?_⟩
              show [some (V.ref t), some (V.ref me), some (V.ref p), some (V.int ad), some (V.ref ip), x5, some (V.int (B1.rd 14 + (k : Int)))] = _
              rw [hz]
            rintro σ H2 ⟨rfl, rfl⟩
            refine ⟨fun σ H' => H1 = H' ∧ σ = [some (.ref t), some (.ref me), some (.ref p), some (.int ad), some (.ref ip), x5, some (.int z)], ?_, ?_⟩
            · refine ⟨_, rfl, _, _, rfl, rfl, _, rfl, ?_⟩
              rw [decide_eq_false (show ¬ (z : Int) < 0 by omega)]
              refine iteF ⟨_, rfl, _, rfl, _, _, rfl, .inl (SqL.of hm.1), _, _, rfl, rfl, _, rfl, ?_⟩
              rw [List.length_map, decide_eq_false (show ¬ (M1.length : Int) ≤ (z : Int) by omega)]
              exact iteF ⟨rfl, rfl⟩
            rintro σ H2 ⟨rfl, rfl⟩
            refine tsk (k := 11) rfl hx (by decide +kernel) ?_
            refine ⟨_, rfl, t, dx, _, rfl, Wx.ob.1, bkf_no_write _ _ _ _ _ _ _, _, rfl, _, _, _, _, rfl, rfl, hx, atI_nat (j := 1) rfl, ?_⟩
            refine ⟨_, rfl, _, rfl, _, _, _, _, rfl, rfl, SqL.of hm.1, atI_nat (at_map (by omega)), ρ, 2, t, B1, 16 + k, _, (by show [V.ref t, V.int (16 + (k : Int)), _] = [V.ref t, V.int ((16 + k : Nat) : Int), _]; rfl), W, o, by omega, fun H2 W2 F2 => ?_⟩
            exact ⟨_, _, _, _, _, h2, W2, o.wr _ _, hm.st F2 (by simp), hM, F.tr (F2.mono up), c, rfl⟩
          · rw [if_neg c0] at h1; cases h1
      · -- the way back
        obtain rfl : i = rs.length := by omega
        rw [List.drop_length] at hst
        obtain ⟨rfl, rfl⟩ := Prod.mk.inj (Option.some.inj hst)
        rw [List.getElem?_append_right (by rw [List.length_map]; exact Nat.le_refl _), List.length_map, Nat.sub_self] at hr1
        obtain rfl := (Option.some.inj hr1).symm
        refine tsk (k := 28) rfl hx (by decide +kernel) ?_
        refine tsk (k := 28) rfl hx (by decide +kernel) ?_
        refine tsk (k := 28) rfl hx (by decide +kernel) ?_
        refine tsk (k := 28) rfl hx (by decide +kernel) ?_
        refine tsk (k := 28) rfl hx (by decide +kernel) ?_
        refine tsk (k := 28) rfl hx (by decide +kernel) ?_
        refine tsk (k := 28) rfl hx (by decide +kernel) ?_
        refine tst (k := 28) rfl hx (by decide +kernel) ?_
        refine ⟨_, rfl, t, dx, _, rfl, Wx.ob.1, bkf_no_leave_trap _ _ _ _ _ _ _, ρ, 2, t, B1, rfl, W, o, fun H2 W2 F2 => ⟨_, rfl, rfl, ?_⟩⟩
        exact q H2 W2 o (hm.st F2 (by simp)) (F.tr (F2.mono up))
    · rintro σ H1 ⟨B1, M1, x4, x5, x6, hst, W, o, hm, hM, F, hi, rfl⟩
      omega
end

/-! ### places of windows -/
def ix (N : Nat) (k : Int) : Nat := ((-k) % (N : Int)).toNat
def lw (N c : Nat) : Nat := if c = 0 then N - 1 else c - 1
def hw (N c : Nat) : Nat := if c + 1 = N then 0 else c + 1
section
variable {N : Nat} (hN : 3 ≤ N)
include hN
theorem ix_b (k : Int) : 0 ≤ (-k) % (N : Int) ∧ (-k) % (N : Int) < N := ⟨Int.emod_nonneg _ (by omega), Int.emod_lt_of_pos _ (by omega)⟩
theorem ix_lt (k : Int) : ix N k < N := by
  have := ix_b hN k
  unfold ix; omega
theorem ix_int (k : Int) : ((ix N k : Nat) : Int) = (-k) % (N : Int) := by
  have := ix_b hN k
  unfold ix; omega
theorem ix_sh (k d : Int) : (-(k + d)) % (N : Int) = ((-k) % (N : Int) - d) % (N : Int) := by
  have e := Int.mul_ediv_add_emod (-k) (N : Int)
  have e2 : -(k + d) = ((-k) % (N : Int) - d) + (N : Int) * ((-k) / (N : Int)) := by omega
  rw [e2, Int.add_mul_emod_self_left]
theorem ix_wrap (k : Int) : ix N (k + N) = ix N k := by
  unfold ix
  rw [show -(k + (N : Int)) = -k + (N : Int) * (-1) by omega, Int.add_mul_emod_self_left]
theorem ix_ne {k l : Int} (h1 : k < l) (h2 : l < k + N) : ix N k ≠ ix N l := fun e => by
  have e : (-k) % (N : Int) = (-l) % (N : Int) := by rw [← ix_int hN, ← ix_int hN, e]
  have e := Int.emod_eq_emod_iff_emod_sub_eq_zero.mp e
  rw [show -k - -l = l - k by omega, Int.emod_eq_of_lt (by omega) (by omega)] at e
  omega
theorem lw_ix (k : Int) : lw N (ix N k) = ix N (k + 1) := by
  have b := ix_b hN k
  have e := ix_int hN k
  have s := ix_sh hN k 1
  have e1 := ix_int hN (k + 1)
  generalize (-(k + 1)) % (N : Int) = t at *
  generalize (-k) % (N : Int) = r at *
  unfold lw
  split
  · rename_i c
    rw [c] at e
    rw [← e, show ((0 : Nat) : Int) - 1 = ((N : Int) - 1) + (N : Int) * (-1) by omega, Int.add_mul_emod_self_left, Int.emod_eq_of_lt (by omega) (by omega)] at s
    omega
  · rw [Int.emod_eq_of_lt (by omega) (by omega)] at s
    omega
theorem hw_ix (k : Int) : hw N (ix N k) = ix N (k - 1) := by
  have b := ix_b hN k
  have e := ix_int hN k
  have s := ix_sh hN k (-1)
  have e1 := ix_int hN (k - 1)
  rw [show k + -1 = k - 1 by omega] at s
  generalize (-(k - 1)) % (N : Int) = t at *
  generalize (-k) % (N : Int) = r at *
  unfold hw
  split
  · rename_i c
    rw [show r - -1 = 0 + (N : Int) * 1 by omega, Int.add_mul_emod_self_left, Int.emod_eq_of_lt (by omega) (by omega)] at s
    omega
  · rw [Int.emod_eq_of_lt (by omega) (by omega)] at s
    omega
end
/-- the banks and the ring hold the same -/
structure Cor (B : Bk) (S : RS) : Prop where
  bo : B.ok
  so : S.ok
  N : B.N = S.W
  g : B.G = S.A.G
  d : B.d = S.A.n
  s : B.s = S.sp
  f : B.f = S.fi
  c : B.c = ix B.N S.A.n
  bar : B.bar = ix B.N ((S.b : Int) - 1)
  w : ∀ k, S.b ≤ k → k ≤ S.A.n → B.W (ix B.N k) = S.A.L k ++ S.A.R k
  o : (B.W (ix B.N ((S.A.n : Int) + 1))).drop 8 = S.A.R (S.A.n + 1)
namespace Cor
variable {B : Bk} {S : RS}
theorem lo (h : Cor B S) : B.lo = ix B.N ((S.A.n : Int) + 1) := by
  have e : B.lo = lw B.N B.c := rfl
  rw [e, h.c, lw_ix h.bo.n3]
theorem hi (h : Cor B S) : B.hi = ix B.N ((S.A.n : Int) - 1) := by
  have e : B.hi = hw B.N B.c := rfl
  rw [e, h.c, hw_ix h.bo.n3]
theorem fullN (h : Cor B S) : S.full ↔ S.A.n + 2 = S.b + B.N := by rw [h.N]; exact Iff.rfl
theorem bd (h : Cor B S) : decide (V.int B.lo = V.int B.bar) = decide S.full := by
  have hb := h.so.b
  have hw := h.so.w
  have n3 := h.bo.n3
  rw [← h.N] at hw
  rw [h.lo, h.bar]
  by_cases f : S.full
  · have f' := h.fullN.mp f
    rw [decide_eq_true f, show ((S.A.n : Int) + 1) = ((S.b : Int) - 1) + B.N by omega, ix_wrap n3, decide_eq_true rfl]
  · have f' : ¬ S.A.n + 2 = S.b + B.N := fun z => f (h.fullN.mpr z)
    rw [decide_eq_false f]
    refine decide_eq_false fun e => ?_
    exact ix_ne n3 (k := (S.b : Int) - 1) (l := (S.A.n : Int) + 1) (by omega) (by omega) (Int.ofNat.inj (V.int.inj e)).symm
theorem bu (h : Cor B S) : decide (V.int B.hi = V.int B.bar) = decide (S.b = S.A.n) := by
  have hb := h.so.b
  have hw := h.so.w
  have n3 := h.bo.n3
  rw [← h.N] at hw
  rw [h.hi, h.bar]
  by_cases f : S.b = S.A.n
  · rw [decide_eq_true f, f, decide_eq_true rfl]
  · rw [decide_eq_false f]
    refine decide_eq_false fun e => ?_
    exact ix_ne n3 (k := (S.b : Int) - 1) (l := (S.A.n : Int) - 1) (by omega) (by omega) (Int.ofNat.inj (V.int.inj e)).symm
theorem rd (h : Cor B S) {j : Nat} (hj : j < 32) : B.rd j = S.A.view.getD j 0 := by
  have hg := h.so.a.g
  have hr := h.so.a.r
  have hl := h.so.a.l
  have hb := h.so.b
  unfold Bk.rd Ab.view
  by_cases c1 : j < 8
  · rw [if_pos c1, h.g, List.getD_eq_getElem?_getD, List.getD_eq_getElem?_getD, List.getElem?_append_left (by rw [hg]; exact c1)]
  · rw [if_neg c1, getR hg (by omega)]
    by_cases c2 : j < 16
    · rw [show B.rowOf j = B.lo from if_pos c2, show Bk.ofs j = j from if_pos c2, h.lo, List.getD_eq_getElem?_getD, List.getD_eq_getElem?_getD, List.getElem?_append_left (by rw [hr]; omega), ← h.o, List.getElem?_drop, show 8 + (j - 8) = j by omega]
    · rw [show B.rowOf j = B.c from if_neg c2, show Bk.ofs j = j - 16 from if_neg c2, getR (hr _) (by omega), h.c, h.w _ hb (Nat.le_refl _), show j - 8 - 8 = j - 16 by omega]
theorem zero {n : Nat} {M : List Int} (h1 : 3 ≤ n) (h2 : n ≤ 32) (hM : M.length ≤ 900) : Cor (Bk.zero n) ⟨.zero, 0, M, 0, 0, n⟩ := by
  have e0 : ix n 0 = 0 := by unfold ix; simp
  refine ⟨Bk.zero_ok h1 h2, ⟨Ab.zero_ok, Nat.le_refl _, by show 0 + 2 ≤ 0 + n; omega, h1, by show n ≤ 100; omega, hM, by show 0 ≤ 200; omega⟩, rfl, rfl, rfl, rfl, rfl, ?_, ?_, fun k _ _ => rfl, rfl⟩
  · show 0 = ix n ((0 : Nat) : Int)
    rw [show (((0 : Nat) : Int)) = 0 from rfl, e0]
  · show (1 : Int) = (ix n (((0 : Nat) : Int) - 1) : Nat)
    rw [ix_int h1, show -(((0 : Nat) : Int) - 1) = 1 from rfl, Int.emod_eq_of_lt (by decide) (by omega)]
end Cor

namespace Cor
variable {B : Bk} {S : RS}
theorem cl (h : Cor B S) {k l : Int} (h1 : k < l) (h2 : l < k + B.N) : ix B.N k ≠ ix B.N l := ix_ne h.bo.n3 h1 h2
theorem dn (h : Cor B S) (f : ¬ S.full) (n : S.A.n ≤ 199) : Cor B.dn S.dn := by
  have hb := h.so.b
  have hw := h.so.w
  have n3 := h.bo.n3
  rw [← h.N] at hw
  have f' : ¬ S.A.n + 2 = S.b + B.N := fun z => f (h.fullN.mpr z)
  have ebar : B.gd.bar ≠ -1 := by show B.bar ≠ -1; rw [h.bar]; omega
  have e1 : B.dn = B.gd.clr 16 := if_neg ebar
  have ec : B.gd.c = ix B.N ((S.A.n : Int) + 1) := h.lo
  have el : B.gd.lo = ix B.N ((S.A.n : Int) + 2) := by
    show lw B.N B.gd.c = _
    rw [ec, lw_ix n3, show (S.A.n : Int) + 1 + 1 = (S.A.n : Int) + 2 by omega]
  have eW : B.dn.W = upF (upF B.W (ix B.N ((S.A.n : Int) + 2)) (Bk.zp 8 8 (B.W (ix B.N ((S.A.n : Int) + 2))))) (ix B.N ((S.A.n : Int) + 1)) (Bk.zp 0 8 (B.W (ix B.N ((S.A.n : Int) + 1)))) := by
    rw [e1]
    show upF (upF B.W B.gd.lo (Bk.zp 8 8 (B.W B.gd.lo))) B.gd.c (Bk.zp 0 8 (B.W B.gd.c)) = _
    rw [ec, el]
  have eN : B.dn.N = B.N := by rw [e1]; rfl
  have l16 := h.bo.w (ix B.N ((S.A.n : Int) + 2))
  refine ⟨h.bo.dn, h.so.dn f n, eN.trans h.N, by rw [e1]; exact h.g, ?_, by rw [e1]; exact h.s, by rw [e1]; exact h.f, ?_, ?_, fun k h1 h2 => ?_, ?_⟩
  · rw [e1]
    show B.d + 1 = ((S.A.n + 1 : Nat) : Int)
    rw [h.d]; omega
  · rw [eN, e1]
    exact ec
  · rw [eN, e1]
    exact h.bar
  · have h2 : k ≤ S.A.n + 1 := h2
    have h1 : S.b ≤ k := h1
    rw [eN, eW]
    show _ = upF S.A.L (S.A.n + 1) z8 k ++ upF S.A.R (S.A.n + 2) z8 k
    rw [upF_ne (f := S.A.R) (show k ≠ S.A.n + 2 by omega)]
    by_cases c : k = S.A.n + 1
    · subst c
      rw [show ((S.A.n + 1 : Nat) : Int) = (S.A.n : Int) + 1 from rfl, upF_same, upF_same]
      unfold Bk.zp
      rw [List.take_zero, List.nil_append, show 0 + 8 = 8 from rfl, h.o]
      rfl
    · rw [upF_ne c, upF_ne (h.cl (by omega) (by omega)), upF_ne (h.cl (by omega) (by omega))]
      exact h.w k h1 (by omega)
  · rw [eN, eW]
    show _ = upF S.A.R (S.A.n + 2) z8 (S.A.n + 1 + 1)
    have e2 : (((S.dn.A.n : Nat) : Int) + 1) = (S.A.n : Int) + 2 := by show (((S.A.n + 1 : Nat) : Int) + 1) = _; omega
    rw [e2, upF_same, upF_ne (h.cl (by omega) (by omega)).symm, upF_same]
    unfold Bk.zp
    rw [List.drop_left' (by rw [List.length_take]; omega), show 8 + 8 = 16 from rfl, List.drop_eq_nil_of_le (by omega), List.append_nil]
    rfl
theorem up (h : Cor B S) (f : S.b < S.A.n) : Cor B.up S.up1 := by
  have en : ((S.A.n - 1 : Nat) : Int) = (S.A.n : Int) - 1 := by omega
  refine ⟨h.bo.up, h.so.up1 f, h.N, h.g, ?_, h.s, h.f, ?_, h.bar, fun k h1 h2 => h.w k h1 (by have h2 : k ≤ S.A.n - 1 := h2; omega), ?_⟩
  · show B.d - 1 = ((S.A.n - 1 : Nat) : Int)
    rw [h.d]; omega
  · show B.hi = ix B.N ((S.A.n - 1 : Nat) : Int)
    rw [en]; exact h.hi
  · show (B.W (ix B.N (((S.A.n - 1 : Nat) : Int) + 1))).drop 8 = S.A.R (S.A.n - 1 + 1)
    rw [show S.A.n - 1 + 1 = S.A.n by omega, show ((S.A.n - 1 : Nat) : Int) + 1 = (S.A.n : Int) by omega, h.w _ (by omega) (Nat.le_refl _), List.drop_left' (h.so.a.l _)]
theorem wr (h : Cor B S) {j : Nat} (hj : j < 32) (x : Int) : Cor (B.wr j x) (S.wr j x) := by
  have hb := h.so.b
  have hw := h.so.w
  have n3 := h.bo.n3
  have hg := h.so.a.g
  have hr := h.so.a.r
  have hl := h.so.a.l
  rw [← h.N] at hw
  have o1 := h.bo.wr j x
  have o2 := h.so.wr j x
  by_cases c0 : j = 0
  · have e1 : B.wr j x = B := if_pos c0
    have e2 : S.wr j x = S := by unfold RS.wr; rw [show S.A.wr j x = S.A from if_pos c0]
    rw [e1, e2]; exact h
  by_cases c1 : j < 8
  · have e1 : B.wr j x = { B with G := B.G.set j x } := by unfold Bk.wr; rw [if_neg c0, if_pos c1]
    have e2 : S.wr j x = { S with A := { S.A with G := S.A.G.set j x } } := by unfold RS.wr Ab.wr; rw [if_neg c0, if_pos c1]
    rw [e1] at o1 ⊢
    rw [e2] at o2 ⊢
    exact ⟨o1, o2, h.N, congrArg (fun z => z.set j x) h.g, h.d, h.s, h.f, h.c, h.bar, h.w, h.o⟩
  by_cases c2 : j < 16
  · have e1 : B.wr j x = { B with W := upF B.W (ix B.N ((S.A.n : Int) + 1)) ((B.W (ix B.N ((S.A.n : Int) + 1))).set j x) } := by
      unfold Bk.wr
      rw [if_neg c0, if_neg c1, show B.rowOf j = B.lo from if_pos c2, show Bk.ofs j = j from if_pos c2, h.lo]
    have e2 : S.wr j x = { S with A := { S.A with R := upF S.A.R (S.A.n + 1) ((S.A.R (S.A.n + 1)).set (j - 8) x) } } := by unfold RS.wr Ab.wr; rw [if_neg c0, if_neg c1, if_pos c2]
    rw [e1] at o1 ⊢
    rw [e2] at o2 ⊢
    refine ⟨o1, o2, h.N, h.g, h.d, h.s, h.f, h.c, h.bar, fun k h1 h2 => ?_, ?_⟩
    · have h2 : k ≤ S.A.n := h2
      have h1 : S.b ≤ k := h1
      show upF B.W _ _ (ix B.N k) = S.A.L k ++ upF S.A.R (S.A.n + 1) _ k
      rw [upF_ne (f := S.A.R) (show k ≠ S.A.n + 1 by omega), upF_ne (h.cl (by omega) (by omega))]
      exact h.w k h1 h2
    · show (upF B.W _ _ (ix B.N ((S.A.n : Int) + 1))).drop 8 = upF S.A.R (S.A.n + 1) _ (S.A.n + 1)
      rw [upF_same, upF_same, ← h.o, List.drop_set, if_neg (by omega)]
  · have ew : B.wr j x = { B with W := upF B.W (ix B.N S.A.n) ((B.W (ix B.N S.A.n)).set (j - 16) x) } := by
      unfold Bk.wr
      rw [if_neg c0, if_neg c1, show B.rowOf j = B.c from if_neg c2, show Bk.ofs j = j - 16 from if_neg c2, h.c]
    have hcur := h.w _ hb (Nat.le_refl _)
    by_cases c3 : j < 24
    · have e2 : S.wr j x = { S with A := { S.A with L := upF S.A.L S.A.n ((S.A.L S.A.n).set (j - 16) x) } } := by unfold RS.wr Ab.wr; rw [if_neg c0, if_neg c1, if_neg c2, if_pos c3]
      rw [ew] at o1 ⊢
      rw [e2] at o2 ⊢
      refine ⟨o1, o2, h.N, h.g, h.d, h.s, h.f, h.c, h.bar, fun k h1 h2 => ?_, ?_⟩
      · have h2 : k ≤ S.A.n := h2
        have h1 : S.b ≤ k := h1
        show upF B.W _ _ (ix B.N k) = upF S.A.L S.A.n _ k ++ S.A.R k
        by_cases c : k = S.A.n
        · subst c
          rw [upF_same, upF_same, hcur, setL (hl _) (by omega)]
        · rw [upF_ne (f := S.A.L) c, upF_ne (h.cl (by omega) (by omega))]
          exact h.w k h1 h2
      · show (upF B.W _ _ (ix B.N ((S.A.n : Int) + 1))).drop 8 = S.A.R (S.A.n + 1)
        rw [upF_ne (h.cl (by omega) (by omega)).symm]
        exact h.o
    · have e2 : S.wr j x = { S with A := { S.A with R := upF S.A.R S.A.n ((S.A.R S.A.n).set (j - 24) x) } } := by unfold RS.wr Ab.wr; rw [if_neg c0, if_neg c1, if_neg c2, if_neg c3]
      rw [ew] at o1 ⊢
      rw [e2] at o2 ⊢
      refine ⟨o1, o2, h.N, h.g, h.d, h.s, h.f, h.c, h.bar, fun k h1 h2 => ?_, ?_⟩
      · have h2 : k ≤ S.A.n := h2
        have h1 : S.b ≤ k := h1
        show upF B.W _ _ (ix B.N k) = S.A.L k ++ upF S.A.R S.A.n _ k
        by_cases c : k = S.A.n
        · subst c
          rw [upF_same, upF_same, hcur, setR (hl _) (by omega), show j - 16 - 8 = j - 24 by omega]
        · rw [upF_ne (f := S.A.R) c, upF_ne (h.cl (by omega) (by omega))]
          exact h.w k h1 h2
      · show (upF B.W _ _ (ix B.N ((S.A.n : Int) + 1))).drop 8 = upF S.A.R S.A.n _ (S.A.n + 1)
        rw [upF_ne (f := S.A.R) (by omega), upF_ne (h.cl (by omega) (by omega)).symm]
        exact h.o
end Cor

/-- a memory that is written word by word -/
def memK (M ws : List Int) (s i : Nat) : List Int := M.take s ++ ws.take i ++ M.drop (s + i)
theorem memK_len {M ws : List Int} {s i : Nat} (h : s + 16 ≤ M.length) (hw : ws.length = 16) (hi : i ≤ 16) : (memK M ws s i).length = M.length := by
  unfold memK
  simp only [List.length_append, List.length_take, List.length_drop, hw]
  omega
theorem memK_set {M ws : List Int} {s i : Nat} (h : s + 16 ≤ M.length) (hw : ws.length = 16) (hi : i < 16) : (memK M ws s i).set (s + i) (ws.getD i 0) = memK M ws s (i + 1) := by
  unfold memK
  have e1 : (M.take s ++ ws.take i).length = s + i := by simp only [List.length_append, List.length_take, hw]; omega
  rw [List.set_append_right _ _ (by rw [e1]; exact Nat.le_refl _), e1, Nat.sub_self]
  have e2 : M.drop (s + i) = M[s + i]'(by omega) :: M.drop (s + i + 1) := List.drop_eq_getElem_cons (by omega)
  rw [e2, List.set_cons_zero]
  have e3 : ws.take (i + 1) = ws.take i ++ [ws.getD i 0] := by
    rw [List.take_succ, List.getElem?_eq_getElem (by omega), List.getD_eq_getElem?_getD, List.getElem?_eq_getElem (by omega)]
    rfl
  rw [e3]
  simp [Nat.add_assoc]
theorem memK_0 {M ws : List Int} {s : Nat} : memK M ws s 0 = M := by
  unfold memK
  simp
theorem getD_set {xs : List Int} {j : Nat} {x : Int} (h : j < xs.length) : (xs.set j x).getD j 0 = x := by
  rw [List.getD_eq_getElem?_getD, List.getElem?_set_self h]; rfl
theorem getD_ne {xs : List Int} {i j : Nat} {x : Int} (h : j ≠ i) : (xs.set j x).getD i 0 = xs.getD i 0 := by
  rw [List.getD_eq_getElem?_getD, List.getD_eq_getElem?_getD, List.getElem?_set_ne h]
theorem step_of {r : Rw} {rs : List Rw} {B B1 : Bk} {M M1 : List Int} {z : Option (Bk × List Int)} (h : step1 r B M = some (B1, M1)) (k : steps rs B1 M1 = z) : steps (r :: rs) B M = z := by
  unfold steps
  rw [h]
  exact k
theorem steps_app {rs ss : List Rw} : ∀ {B B1 : Bk} {M M1 : List Int} {z : Option (Bk × List Int)}, steps rs B M = some (B1, M1) → steps ss B1 M1 = z → steps (rs ++ ss) B M = z := by
  induction rs with
  | nil =>
    intro B B1 M M1 z h k
    obtain ⟨rfl, rfl⟩ := Prod.mk.inj (Option.some.inj h)
    exact k
  | cons r rs ih =>
    intro B B1 M M1 z h k
    obtain ⟨B2, M2, h1, h2⟩ := steps_cons h
    exact step_of h1 (ih h2 k)
section
variable {G : List Int} {W : Nat → List Int} {N c : Nat} {bar d s f x : Int} {M : List Int}
theorem wr_at {j : Nat} (h : j < 16) : (⟨G, W, N, c, bar, d, s, f⟩ : Bk).wr (16 + j) x = ⟨G, upF W c ((W c).set j x), N, c, bar, d, s, f⟩ := by
  unfold Bk.wr
  rw [if_neg (by omega), if_neg (by omega)]
  have e1 : (⟨G, W, N, c, bar, d, s, f⟩ : Bk).rowOf (16 + j) = c := if_neg (by omega)
  have e2 : Bk.ofs (16 + j) = j := (if_neg (by omega)).trans (by omega)
  rw [e1, e2]
theorem rd_at {j : Nat} (h : j < 16) : (⟨G, W, N, c, bar, d, s, f⟩ : Bk).rd (16 + j) = (W c).getD j 0 := by
  unfold Bk.rd
  rw [if_neg (by omega)]
  have e1 : (⟨G, W, N, c, bar, d, s, f⟩ : Bk).rowOf (16 + j) = c := if_neg (by omega)
  have e2 : Bk.ofs (16 + j) = j := (if_neg (by omega)).trans (by omega)
  rw [e1, e2]
theorem rd14 : (⟨G, W, N, c, bar, d, s, f⟩ : Bk).rd 14 = (W (lw N c)).getD 14 0 := rfl
theorem dn_at : (⟨G, W, N, c, -1, d, s, f⟩ : Bk).dn = ⟨G, W, N, lw N c, -1, d + 1, s, f⟩ := if_pos rfl
theorem up_at : (⟨G, W, N, c, bar, d, s, f⟩ : Bk).up = ⟨G, W, N, hw N c, bar, d - 1, s, f⟩ := rfl
/-- the first five instructions of both handlers but the two moves of windows; l: the window of the trap -/
theorem head4 {r0 : List Int} {l : Nat} {ad k y : Int} {op : Rw} (hl : r0.length = 16) (hN : 3 ≤ N) (ho : op = .sb 1 ∧ y = (bar - 1 + N) % N ∨ op = .ad 1 ∧ y = (bar + 1 + N) % N) :
    ∃ row, row.length = 16 ∧ row.drop 8 = r0.drop 8 ∧ row.getD 1 0 = ad ∧ row.getD 4 0 = y ∧ steps [.bar, op, .md N, .setI (-1)] ⟨G, upF W l (r0.set 1 ad), N, l, bar, d, s, f⟩ M = some (⟨G, upF W l row, N, l, -1, d, s, f⟩, M) := by
  have p : ∀ (r : List Int) (j : Nat) (x : Int) (bar : Int), j < 16 → (⟨G, upF W l r, N, l, bar, d, s, f⟩ : Bk).wr (16 + j) x = ⟨G, upF W l (r.set j x), N, l, bar, d, s, f⟩ := fun r j x bar hj => by
    rw [wr_at hj, upF_same, Bk.upF_upF]
  have p2 : ∀ (r : List Int) (j : Nat) (bar : Int), j < 16 → (⟨G, upF W l r, N, l, bar, d, s, f⟩ : Bk).rd (16 + j) = r.getD j 0 := fun r j bar hj => by
    rw [rd_at hj, upF_same]
  have fin : ∀ q : Int, (q = bar - 1 ∧ op = .sb 1 ∨ q = bar + 1 ∧ op = .ad 1) → y = (q + N) % N → ∃ row, row.length = 16 ∧ row.drop 8 = r0.drop 8 ∧ row.getD 1 0 = ad ∧ row.getD 4 0 = y ∧ steps [.bar, op, .md N, .setI (-1)] ⟨G, upF W l (r0.set 1 ad), N, l, bar, d, s, f⟩ M = some (⟨G, upF W l row, N, l, -1, d, s, f⟩, M) := fun q hq hy => by
    refine ⟨(((r0.set 1 ad).set 3 bar).set 4 q).set 4 y, by simp [hl], ?_, ?_, ?_, ?_⟩
    · rw [List.drop_set, if_pos (by decide), List.drop_set, if_pos (by decide), List.drop_set, if_pos (by decide), List.drop_set, if_pos (by decide)]
    · rw [getD_ne (by decide), getD_ne (by decide), getD_ne (by decide), getD_set (by omega)]
    · rw [getD_set (by simp [hl])]
    · refine step_of (B1 := ⟨G, upF W l ((r0.set 1 ad).set 3 bar), N, l, bar, d, s, f⟩) (M1 := M) (congrArg (fun z => some (z, M)) (p (r0.set 1 ad) 3 bar bar (by decide))) ?_
      have r19 : (⟨G, upF W l ((r0.set 1 ad).set 3 bar), N, l, bar, d, s, f⟩ : Bk).rd 19 = bar := (p2 _ 3 bar (by decide)).trans (getD_set (by simp [hl]))
      have second : step1 op ⟨G, upF W l ((r0.set 1 ad).set 3 bar), N, l, bar, d, s, f⟩ M = some (⟨G, upF W l (((r0.set 1 ad).set 3 bar).set 4 q), N, l, bar, d, s, f⟩, M) := by
        rcases hq with ⟨rfl, rfl⟩ | ⟨rfl, rfl⟩
        · show some (Bk.wr _ 20 (Bk.rd _ 19 - 1), M) = _
          rw [r19]
          exact congrArg (fun z => some (z, M)) (p _ 4 _ bar (by decide))
        · show some (Bk.wr _ 20 (Bk.rd _ 19 + 1), M) = _
          rw [r19]
          exact congrArg (fun z => some (z, M)) (p _ 4 _ bar (by decide))
      refine step_of second ?_
      have r20 : (⟨G, upF W l (((r0.set 1 ad).set 3 bar).set 4 q), N, l, bar, d, s, f⟩ : Bk).rd 20 = q := (p2 _ 4 bar (by decide)).trans (getD_set (by simp [hl]))
      refine step_of (B1 := ⟨G, upF W l ((((r0.set 1 ad).set 3 bar).set 4 q).set 4 y), N, l, bar, d, s, f⟩) (M1 := M) ?_ rfl
      show (if 0 < (N : Int) then some (Bk.wr _ 20 ((Bk.rd _ 20 + (N : Int)) % (N : Int)), M) else none) = _
      rw [if_pos (by omega), r20, ← hy]
      exact congrArg (fun z => some (z, M)) (p _ 4 _ bar (by decide))
  rcases ho with ⟨h1, h2⟩ | ⟨h1, h2⟩
  · exact fin (bar - 1) (.inl ⟨rfl, h1⟩) h2
  · exact fin (bar + 1) (.inr ⟨rfl, h1⟩) h2
/-- sixteen stores -/
theorem stores {ws : List Int} {z : Nat} (hw : W c = ws) (h16 : ws.length = 16) (hz : (W (lw N c)).getD 14 0 = (z : Int)) (hM : z + 16 ≤ M.length) : ∀ n i, i + n = 16 →
    steps (((List.range 16).map Rw.st).drop i) ⟨G, W, N, c, bar, d, s, f⟩ (memK M ws z i) = some (⟨G, W, N, c, bar, d, s, f⟩, memK M ws z 16) := by
  intro n
  induction n with
  | zero =>
    intro i hi
    obtain rfl : i = 16 := by omega
    rfl
  | succ n ih =>
    intro i hi
    have e : ((List.range 16).map Rw.st).drop i = Rw.st i :: ((List.range 16).map Rw.st).drop (i + 1) := by
      rw [List.drop_eq_getElem_cons (by simp; omega)]
      simp
    rw [e]
    refine step_of ?_ (ih (i + 1) (by omega))
    show (if i < 16 ∧ 0 ≤ Bk.rd _ 14 + (i : Int) ∧ Bk.rd _ 14 + (i : Int) < ((memK M ws z i).length : Int) then some (_, (memK M ws z i).set (Bk.rd _ 14 + (i : Int)).toNat (Bk.rd _ (16 + i))) else none) = _
    rw [rd14, hz, memK_len hM h16 (by omega), if_pos ⟨by omega, by omega, by omega⟩, rd_at (by omega), hw, show ((z : Int) + (i : Int)).toNat = z + i by omega, memK_set hM h16 (by omega)]
/-- sixteen loads -/
theorem loads {ws : List Int} {z : Nat} (hc : (W c).length = 16) (hlc : lw N c ≠ c) (hz : (W (lw N c)).getD 14 0 = (z : Int)) (hM : z + 16 ≤ M.length) (hws : ws = (M.drop z).take 16) : ∀ n i, i + n = 16 →
    steps (((List.range 16).map Rw.ld).drop i) ⟨G, upF W c (ws.take i ++ (W c).drop i), N, c, bar, d, s, f⟩ M = some (⟨G, upF W c ws, N, c, bar, d, s, f⟩, M) := by
  have h16 : ws.length = 16 := by rw [hws, List.length_take, List.length_drop]; omega
  intro n
  induction n with
  | zero =>
    intro i hi
    obtain rfl : i = 16 := by omega
    rw [List.take_of_length_le (by omega), List.drop_eq_nil_of_le (show (W c).length ≤ 16 by omega), List.append_nil]
    rfl
  | succ n ih =>
    intro i hi
    have e : ((List.range 16).map Rw.ld).drop i = Rw.ld i :: ((List.range 16).map Rw.ld).drop (i + 1) := by
      rw [List.drop_eq_getElem_cons (by simp; omega)]
      simp
    rw [e]
    refine step_of ?_ (ih (i + 1) (by omega))
    show (if i < 16 ∧ 0 ≤ Bk.rd _ 14 + (i : Int) ∧ Bk.rd _ 14 + (i : Int) < (M.length : Int) then some (Bk.wr _ (16 + i) (M.getD (Bk.rd _ 14 + (i : Int)).toNat 0), M) else none) = _
    rw [rd14, upF_ne hlc, hz, if_pos ⟨by omega, by omega, by omega⟩, show ((z : Int) + (i : Int)).toNat = z + i by omega, wr_at (by omega), upF_same, Bk.upF_upF]
    have e1 : (ws.take i).length = i := by rw [List.length_take]; omega
    have e2 : (ws.take i ++ (W c).drop i).set i (M.getD (z + i) 0) = ws.take (i + 1) ++ (W c).drop (i + 1) := by
      rw [List.set_append_right _ _ (by omega), e1, Nat.sub_self, List.drop_eq_getElem_cons (show i < (W c).length by omega), List.set_cons_zero, List.take_succ, List.append_assoc]
      congr 1
      rw [hws, List.getElem?_take_of_lt (by omega), List.getElem?_drop, List.getD_eq_getElem?_getD, List.getElem?_eq_getElem (by omega)]
      rfl
    rw [e2]
end

def spillW (n : Nat) : List Rw := [.bar, .sb 1, .md n, .setI (-1)] ++ (.sv :: ((List.range 16).map Rw.st ++ [.rs, .setR]))
def fillW (n : Nat) : List Rw := [.bar, .ad 1, .md n, .setI (-1)] ++ ([.rs, .rs] ++ ((List.range 16).map Rw.ld ++ [.sv, .sv, .setR]))
theorem spillW_I (n : Nat) : spillI n = (spillW n).map Rw.toI ++ [(28, [])] := rfl
theorem fillW_I (n : Nat) : fillI n = (fillW n).map Rw.toI ++ [(28, [])] := rfl
namespace Cor
variable {B : Bk} {S : RS}
theorem td_at (ad : Int) : B.td ad = ⟨B.G, upF B.W B.lo ((B.W B.lo).set 1 ad), B.N, B.lo, B.bar, B.d + 1, B.s + 1, B.f⟩ :=
  wr_at (G := B.G) (W := B.W) (N := B.N) (c := B.lo) (bar := B.bar) (d := B.d + 1) (s := B.s + 1) (f := B.f) (x := ad) (j := 1) (by decide)
theorem tu_at (ad : Int) : B.tu ad = ⟨B.G, upF B.W B.lo ((B.W B.lo).set 1 ad), B.N, B.lo, B.bar, B.d + 1, B.s, B.f + 1⟩ :=
  wr_at (G := B.G) (W := B.W) (N := B.N) (c := B.lo) (bar := B.bar) (d := B.d + 1) (s := B.s) (f := B.f + 1) (x := ad) (j := 1) (by decide)
theorem spill (h : Cor B S) (fu : S.full) (li : lies S.M S.sS) (ad : Int) : ∃ B', steps (spillW B.N) (B.td ad) S.M = some (B', S.spill.M) ∧ B'.rd 17 = ad ∧ Cor B'.up S.spill ∧ B'.ok := by
  have hb := h.so.b
  have n3 := h.bo.n3
  have f' := h.fullN.mp fu
  have hM := h.so.m
  obtain ⟨l1, l2⟩ := id li
  obtain ⟨z, hz⟩ : ∃ z : Nat, S.sS = (z : Int) := ⟨S.sS.toNat, by omega⟩
  have so2 := (h.so.spill fu li).1
  have elo := h.lo
  have rl := h.bo.w B.lo
  obtain ⟨row, w1, w2, w3, w4, w5⟩ := head4 (G := B.G) (W := B.W) (N := B.N) (bar := B.bar) (d := B.d + 1) (s := B.s + 1) (f := B.f) (M := S.M) (l := B.lo) (ad := ad) (k := 0) (y := (B.bar - 1 + B.N) % B.N) rl n3 (.inl ⟨rfl, rfl⟩)
  have ey : (B.bar - 1 + (B.N : Int)) % (B.N : Int) = (ix B.N ((S.b : Int)) : Nat) := by
    rw [h.bar, ix_int n3, ix_int n3, Int.add_emod_right, ← ix_sh n3, show (S.b : Int) - 1 + 1 = (S.b : Int) by omega]
  rw [ey] at w4
  rw [elo] at w5 rl w2
  generalize hl : ix B.N ((S.A.n : Int) + 1) = l at *
  have e1 : lw B.N l = ix B.N (S.b : Int) := by
    rw [← hl, lw_ix n3, show (S.A.n : Int) + 1 + 1 = (S.b : Int) + B.N by omega, ix_wrap n3]
  have e2 : hw B.N (lw B.N l) = l := by
    rw [← hl, lw_ix n3, hw_ix n3, show (S.A.n : Int) + 1 + 1 - 1 = (S.A.n : Int) + 1 by omega]
  have e3 : hw B.N l = ix B.N (S.A.n : Int) := by rw [← hl, hw_ix n3, show (S.A.n : Int) + 1 - 1 = (S.A.n : Int) by omega]
  have ne : ∀ k : Nat, S.b ≤ k → k ≤ S.A.n → ix B.N (k : Int) ≠ l := fun k h1 h2 => by rw [← hl]; exact h.cl (by omega) (by omega)
  have Wk : ∀ k : Nat, S.b ≤ k → k ≤ S.A.n → upF B.W l row (ix B.N (k : Int)) = S.A.L k ++ S.A.R k := fun k h1 h2 => by rw [upF_ne (ne k h1 h2)]; exact h.w k h1 h2
  have h16 : (S.A.L S.b ++ S.A.R S.b).length = 16 := by rw [List.length_append, h.so.a.l, h.so.a.r]
  have st := stores (G := B.G) (W := upF B.W l row) (N := B.N) (c := lw B.N l) (bar := -1) (d := B.d + 1 + 1) (s := B.s + 1) (f := B.f) (M := S.M) (z := z) (by rw [e1]; exact Wk S.b (Nat.le_refl _) (by omega)) h16 (by
    rw [e1, lw_ix n3, show (S.b : Int) + 1 = ((S.b + 1 : Nat) : Int) from rfl, Wk (S.b + 1) (by omega) (by omega), getR (h.so.a.l _) (by decide), ← hz]; rfl) (by omega) 16 0 rfl
  rw [List.drop_zero, memK_0] at st
  have eM : S.spill.M = memK S.M (S.A.L S.b ++ S.A.R S.b) z 16 := by
    show S.M.take S.sS.toNat ++ (S.A.L S.b ++ S.A.R S.b) ++ S.M.drop (S.sS.toNat + 16) = _
    rw [hz, Int.toNat_natCast]
    unfold memK
    rw [List.take_of_length_le (show (S.A.L S.b ++ S.A.R S.b).length ≤ 16 by omega)]
  refine ⟨⟨B.G, upF B.W l row, B.N, l, (ix B.N (S.b : Int) : Nat), B.d + 1, B.s + 1, B.f⟩, ?_, ?_, ?_, ?_⟩
  · rw [td_at, elo, eM]
    refine steps_app w5 (step_of (r := .sv) (congrArg (fun z => some (z, S.M)) dn_at) (steps_app st ?_))
    refine step_of (r := .rs) (B1 := ⟨B.G, upF B.W l row, B.N, l, -1, B.d + 1, B.s + 1, B.f⟩) (M1 := memK S.M (S.A.L S.b ++ S.A.R S.b) z 16) ?_ ?_
    · show some (Bk.up _, _) = _
      rw [up_at, e2, show B.d + 1 + 1 - 1 = B.d + 1 by omega]
    · refine step_of (r := .setR) (B1 := ⟨B.G, upF B.W l row, B.N, l, (ix B.N (S.b : Int) : Nat), B.d + 1, B.s + 1, B.f⟩) ?_ rfl
      show some (Bk.sb _ (Bk.rd _ (16 + 4)), _) = _
      rw [rd_at (by decide), upF_same, w4]
      rfl
  · show Bk.rd _ (16 + 1) = _
    rw [rd_at (by decide), upF_same, w3]
  · have bo2 : (⟨B.G, upF B.W l row, B.N, l, (ix B.N (S.b : Int) : Nat), B.d + 1, B.s + 1, B.f⟩ : Bk).ok := ⟨h.bo.g, Bk.upF_len h.bo.w w1, n3, h.bo.n32, by rw [← elo]; exact h.bo.lo⟩
    refine ⟨bo2.up, so2, h.N, h.g, ?_, congrArg (· + 1) h.s, h.f, e3, ?_, fun k h1 h2 => Wk k (by have h1 : S.b + 1 ≤ k := h1; omega) h2, ?_⟩
    · show B.d + 1 - 1 = (S.A.n : Int)
      rw [h.d]; omega
    · show ((ix B.N (S.b : Int) : Nat) : Int) = (ix B.N (((S.b + 1 : Nat) : Int) - 1) : Nat)
      rw [show (((S.b + 1 : Nat) : Int) - 1) = (S.b : Int) by omega]
    · show (upF B.W l row (ix B.N ((S.A.n : Int) + 1))).drop 8 = S.A.R (S.A.n + 1)
      rw [hl, upF_same, w2, ← hl]
      exact h.o
  · exact ⟨h.bo.g, Bk.upF_len h.bo.w w1, n3, h.bo.n32, by rw [← elo]; exact h.bo.lo⟩
theorem fill (h : Cor B S) (fb : S.b = S.A.n) (n0 : 0 < S.A.n) (li : lies S.M S.fS) (ad : Int) : ∃ B', steps (fillW B.N) (B.tu ad) S.M = some (B', S.fill.M) ∧ B'.rd 17 = ad ∧ Cor B'.up S.fill ∧ B'.ok := by
  have n3 := h.bo.n3
  have hM := h.so.m
  obtain ⟨l1, l2⟩ := id li
  obtain ⟨z, hz⟩ : ∃ z : Nat, S.fS = (z : Int) := ⟨S.fS.toNat, by omega⟩
  have so2 := (h.so.fill fb n0 li).1
  have elo := h.lo
  have rl := h.bo.w B.lo
  obtain ⟨row, w1, w2, w3, w4, w5⟩ := head4 (G := B.G) (W := B.W) (N := B.N) (bar := B.bar) (d := B.d + 1) (s := B.s) (f := B.f + 1) (M := S.M) (l := B.lo) (ad := ad) (k := 0) (y := (B.bar + 1 + B.N) % B.N) rl n3 (.inr ⟨rfl, rfl⟩)
  have ey : (B.bar + 1 + (B.N : Int)) % (B.N : Int) = (ix B.N ((S.b : Int) - 2) : Nat) := by
    rw [h.bar, ix_int n3, ix_int n3, Int.add_emod_right, show ∀ q : Int, q + 1 = q - -1 by intro q; omega, ← ix_sh n3, show (S.b : Int) - 1 + -1 = (S.b : Int) - 2 by omega]
  rw [ey] at w4
  rw [elo] at w5 rl w2
  have hcur := h.w S.A.n (by omega) (Nat.le_refl _)
  have hne1 : ix B.N ((S.A.n : Int) - 1) ≠ ix B.N ((S.A.n : Int) + 1) := h.cl (by omega) (by omega)
  have hne2 : ix B.N ((S.A.n : Int)) ≠ ix B.N ((S.A.n : Int) + 1) := h.cl (by omega) (by omega)
  have hne3 : ix B.N ((S.A.n : Int) - 1) ≠ ix B.N ((S.A.n : Int)) := h.cl (by omega) (by omega)
  have elc : lw B.N (ix B.N ((S.A.n : Int) - 1)) = ix B.N (S.A.n : Int) := by rw [lw_ix n3, show (S.A.n : Int) - 1 + 1 = (S.A.n : Int) by omega]
  have elc2 : lw B.N (ix B.N ((S.A.n : Int))) = ix B.N ((S.A.n : Int) + 1) := lw_ix n3 _
  have ehc : hw B.N (ix B.N ((S.A.n : Int))) = ix B.N ((S.A.n : Int) - 1) := hw_ix n3 _
  have ehl : hw B.N (ix B.N ((S.A.n : Int) + 1)) = ix B.N ((S.A.n : Int)) := by rw [hw_ix n3, show (S.A.n : Int) + 1 - 1 = (S.A.n : Int) by omega]
  have hlo : ix B.N ((S.A.n : Int) + 1) < B.N := ix_lt n3 _
  have ho := h.o
  generalize hl : ix B.N ((S.A.n : Int) + 1) = l at *
  have hc' := h.c
  generalize hh : ix B.N ((S.A.n : Int) - 1) = u at *
  generalize hcc : ix B.N (S.A.n : Int) = c at *
  have ld := loads (G := B.G) (W := upF B.W l row) (N := B.N) (c := u) (bar := -1) (d := B.d + 1 - 1 - 1) (s := B.s) (f := B.f + 1) (M := S.M) (z := z) (ws := (S.M.drop z).take 16) (by rw [upF_ne hne1]; exact h.bo.w _) (by rw [elc]; exact hne3.symm) (by
    rw [elc, upF_ne hne2, hcur, getR (h.so.a.l _) (by decide), ← hz]; rfl) (by omega) rfl 16 0 rfl
  rw [List.drop_zero, List.take_zero, List.nil_append, List.drop_zero] at ld
  have eself : upF (upF B.W l row) u (upF B.W l row u) = upF B.W l row := by
    funext j; unfold upF
    by_cases c : j = u
    · subst c; simp
    · simp [c]
  rw [eself] at ld
  have h16 : ((S.M.drop z).take 16).length = 16 := by rw [List.length_take, List.length_drop]; omega
  generalize hws : (S.M.drop z).take 16 = ws at *
  refine ⟨⟨B.G, upF (upF B.W l row) u ws, B.N, l, (ix B.N ((S.b : Int) - 2) : Nat), B.d + 1, B.s, B.f + 1⟩, ?_, ?_, ?_, ?_⟩
  · rw [tu_at, elo]
    refine steps_app w5 (steps_app (B1 := ⟨B.G, upF B.W l row, B.N, u, -1, B.d + 1 - 1 - 1, B.s, B.f + 1⟩) (M1 := S.M) ?_ (steps_app ld ?_))
    · refine step_of (r := .rs) (B1 := ⟨B.G, upF B.W l row, B.N, c, -1, B.d + 1 - 1, B.s, B.f + 1⟩) (M1 := S.M) ?_ (step_of (r := .rs) (M1 := S.M) ?_ rfl)
      · show some (Bk.up _, _) = _
        rw [up_at, ehl]
      · show some (Bk.up _, _) = _
        rw [up_at, ehc]
    · refine step_of (r := .sv) (B1 := ⟨B.G, upF (upF B.W l row) u ws, B.N, c, -1, B.d + 1 - 1 - 1 + 1, B.s, B.f + 1⟩) (M1 := S.M) ?_ (step_of (r := .sv) (B1 := ⟨B.G, upF (upF B.W l row) u ws, B.N, l, -1, B.d + 1 - 1 - 1 + 1 + 1, B.s, B.f + 1⟩) (M1 := S.M) ?_ (step_of (r := .setR) ?_ rfl))
      · show some (Bk.dn _, _) = _
        rw [dn_at, elc]
      · show some (Bk.dn _, _) = _
        rw [dn_at, elc2]
      · show some (Bk.sb _ (Bk.rd _ (16 + 4)), _) = some (_, S.M)
        rw [rd_at (by decide), upF_ne hne1.symm, upF_same, w4, show B.d + 1 - 1 - 1 + 1 + 1 = B.d + 1 by omega]
        rfl
  · show Bk.rd _ (16 + 1) = _
    rw [rd_at (by decide), upF_ne hne1.symm, upF_same, w3]
  · have bo2 : (⟨B.G, upF (upF B.W l row) u ws, B.N, l, (ix B.N ((S.b : Int) - 2) : Nat), B.d + 1, B.s, B.f + 1⟩ : Bk).ok := ⟨h.bo.g, Bk.upF_len (Bk.upF_len h.bo.w w1) h16, n3, h.bo.n32, hlo⟩
    have eb : ((S.b - 1 : Nat) : Int) = (S.A.n : Int) - 1 := by omega
    refine ⟨bo2.up, so2, h.N, h.g, ?_, h.s, congrArg (· + 1) h.f, ?_, ?_, fun k h1 h2 => ?_, ?_⟩
    · show B.d + 1 - 1 = (S.A.n : Int)
      rw [h.d]; omega
    · show hw B.N l = ix B.N (S.A.n : Int)
      rw [hcc]; exact ehl
    · show ((ix B.N ((S.b : Int) - 2) : Nat) : Int) = (ix B.N (((S.b - 1 : Nat) : Int) - 1) : Nat)
      rw [show (((S.b - 1 : Nat) : Int) - 1) = (S.b : Int) - 2 by omega]
    · have h1 : S.b - 1 ≤ k := h1
      have h2 : k ≤ S.A.n := h2
      show upF (upF B.W l row) u ws (ix B.N (k : Int)) = upF S.A.L (S.b - 1) _ k ++ upF S.A.R (S.b - 1) _ k
      by_cases e : k = S.b - 1
      · subst e
        rw [eb, hh, upF_same, upF_same, upF_same, ← hws, hz, Int.toNat_natCast, half]
      · obtain rfl : k = S.A.n := by omega
        rw [hcc, upF_ne (f := S.A.L) (by omega), upF_ne (f := S.A.R) (by omega), upF_ne hne3.symm, upF_ne hne2]
        exact hcur
    · show (upF (upF B.W l row) u ws (ix B.N ((S.A.n : Int) + 1))).drop 8 = upF S.A.R (S.b - 1) _ (S.A.n + 1)
      rw [hl, upF_ne (f := S.A.R) (by omega), upF_ne hne1.symm, upF_same, w2]
      exact ho
  · exact ⟨h.bo.g, Bk.upF_len (Bk.upF_len h.bo.w w1) h16, n3, h.bo.n32, hlo⟩
end Cor

/-! ### stack pointers -/
structure Pt (S : RS) (top step q : Nat) : Prop where
  s16 : 16 ≤ step
  s20 : step ≤ 20
  tl : top + 16 ≤ S.M.length
  t : step * 41 ≤ top
  c : S.sp = S.fi + (S.b : Int)
  r : ∀ k, k < q → (S.A.R (k + 1)).getD 6 0 = (top : Int) - step * k
  m : ∀ k, 1 ≤ k → k < S.b → S.M.getD (top - step * k + 14) 0 = (top : Int) - step * ((k : Int) - 1)
theorem mul_le {a b c : Nat} (h : a ≤ b) : c * a ≤ c * b := Nat.mul_le_mul_left c h
namespace Pt
variable {S : RS} {top step q : Nat}
theorem lies (h : Pt S top step q) {k : Nat} (hk : k ≤ 41) : My.lies S.M ((top : Int) - step * k) := by
  have h1 := h.t
  have h2 := h.tl
  have h3 : step * k ≤ step * 41 := mul_le hk
  have e : ((step * k : Nat) : Int) = (step : Int) * (k : Int) := Int.natCast_mul _ _
  refine ⟨?_, ?_⟩ <;> omega
theorem sS (h : Pt S top step (S.A.n + 1)) (hb : S.b ≤ S.A.n) : S.sS = (top : Int) - step * S.b := h.r S.b (by omega)
theorem fS (h : Pt S top step (S.A.n + 1)) {m : Nat} (hm : S.A.n = m + 1) : S.fS = (top : Int) - step * m := by
  unfold RS.fS
  rw [hm]
  exact h.r m (by omega)
theorem spill (h : Pt S top step (S.A.n + 1)) (o : S.ok) (hb : S.b ≤ S.A.n) (hn : S.A.n ≤ 40) : Pt S.spill top step (S.A.n + 1) := by
  have h0 := h.t
  have h2 := h.tl
  have h16 : (S.A.L S.b ++ S.A.R S.b).length = 16 := by rw [List.length_append, o.a.l, o.a.r]
  have hs := h.sS hb
  have h3 : step * S.b ≤ step * 41 := mul_le (by omega)
  have e : ((step * S.b : Nat) : Int) = (step : Int) * (S.b : Int) := Int.natCast_mul _ _
  have ez : S.sS.toNat = top - step * S.b := by omega
  have eM : S.spill.M = S.M.take (top - step * S.b) ++ ((S.A.L S.b ++ S.A.R S.b) ++ S.M.drop (top - step * S.b + 16)) := by
    show S.M.take S.sS.toNat ++ (S.A.L S.b ++ S.A.R S.b) ++ S.M.drop (S.sS.toNat + 16) = _
    rw [ez, List.append_assoc]
  have el : (S.M.take (top - step * S.b)).length = top - step * S.b := by rw [List.length_take]; omega
  have hc := h.c
  refine ⟨h.s16, h.s20, ?_, h.t, by show S.sp + 1 = S.fi + ((S.b + 1 : Nat) : Int); omega, h.r, fun k k1 k2 => ?_⟩
  · rw [eM]; simp only [List.length_append, List.length_take, List.length_drop, o.a.l, o.a.r]; omega
  · have k2 : k < S.b + 1 := k2
    rw [eM]
    by_cases c : k = S.b
    · subst c
      rw [getR el (by omega), show top - step * S.b + 14 - (top - step * S.b) = 14 by omega, List.getD_eq_getElem?_getD, List.getElem?_append_left (by omega), ← List.getD_eq_getElem?_getD, getR (o.a.l _) (by decide)]
      have := h.r (S.b - 1) (by omega)
      rw [show S.b - 1 + 1 = S.b by omega, show ((S.b - 1 : Nat) : Int) = (S.b : Int) - 1 by omega] at this
      exact this
    · have h4 : step * (k + 1) ≤ step * S.b := mul_le (by omega)
      rw [Nat.mul_succ] at h4
      have h5 := h.s16
      rw [getR el (by omega), getR h16 (by omega), List.getD_eq_getElem?_getD, List.getElem?_drop, ← List.getD_eq_getElem?_getD, show top - step * S.b + 16 + (top - step * k + 14 - (top - step * S.b) - 16) = top - step * k + 14 by omega]
      exact h.m k k1 (by omega)
theorem dn (h : Pt S top step (S.A.n + 1)) : Pt S.dn top step (S.A.n + 1) :=
  ⟨h.s16, h.s20, h.tl, h.t, h.c, fun k hk => by show (upF S.A.R (S.A.n + 2) z8 (k + 1)).getD 6 0 = _; rw [upF_ne (by omega)]; exact h.r k hk, h.m⟩
theorem fill (h : Pt S top step (S.A.n + 1)) (o : S.ok) (hb : S.b = S.A.n) {m : Nat} (hm : S.A.n = m + 1) (hn : S.A.n ≤ 41) : Pt S.fill top step S.A.n := by
  have h0 := h.t
  have h2 := h.tl
  have hs := h.fS hm
  have h3 : step * m ≤ step * 41 := mul_le (by omega)
  have e : ((step * m : Nat) : Int) = (step : Int) * (m : Int) := Int.natCast_mul _ _
  have ez : S.fS.toNat = top - step * m := by omega
  have hc := h.c
  refine ⟨h.s16, h.s20, h.tl, h.t, by show S.sp = S.fi + 1 + ((S.b - 1 : Nat) : Int); omega, fun k hk => ?_, fun k k1 k2 => h.m k k1 (by have k2 : k < S.b - 1 := k2; omega)⟩
  show (upF S.A.R (S.b - 1) ((S.M.drop (S.fS.toNat + 8)).take 8) (k + 1)).getD 6 0 = _
  by_cases c : k + 1 = S.b - 1
  · rw [c, upF_same, ez, List.getD_eq_getElem?_getD, List.getElem?_take_of_lt (by decide), List.getElem?_drop, ← List.getD_eq_getElem?_getD, show top - step * m + 8 + 6 = top - step * m + 14 by omega, h.m m (by omega) (by omega), show (m : Int) - 1 = (k : Int) by omega]
  · rw [upF_ne c]
    exact h.r k (by omega)
theorem up1 (h : Pt S top step S.A.n) (hn : 0 < S.A.n) : Pt S.up1 top step (S.up1.A.n + 1) := ⟨h.s16, h.s20, h.tl, h.t, h.c, fun k hk => h.r k (by have hk : k < S.A.n - 1 + 1 := hk; omega), h.m⟩
theorem less (h : Pt S top step q) {p : Nat} (hp : p ≤ q) : Pt S top step p := ⟨h.s16, h.s20, h.tl, h.t, h.c, fun k hk => h.r k (by omega), h.m⟩
theorem wr (h : Pt S top step (S.A.n + 1)) {j : Nat} (h14 : j ≠ 14) (h30 : j ≠ 30) (x : Int) : Pt (S.wr j x) top step (S.A.n + 1) := by
  refine ⟨h.s16, h.s20, h.tl, h.t, h.c, fun k hk => ?_, h.m⟩
  have := h.r k hk
  show ((S.A.wr j x).R (k + 1)).getD 6 0 = _
  unfold Ab.wr
  by_cases c0 : j = 0
  · rw [if_pos c0]; exact this
  rw [if_neg c0]
  by_cases c1 : j < 8
  · rw [if_pos c1]; exact this
  rw [if_neg c1]
  by_cases c2 : j < 16
  · rw [if_pos c2]
    show (upF S.A.R (S.A.n + 1) _ (k + 1)).getD 6 0 = _
    by_cases c : k + 1 = S.A.n + 1
    · rw [c, upF_same, getD_ne (by omega), ← c]; exact this
    · rw [upF_ne c]; exact this
  rw [if_neg c2]
  by_cases c3 : j < 24
  · rw [if_pos c3]; exact this
  rw [if_neg c3]
  show (upF S.A.R S.A.n _ (k + 1)).getD 6 0 = _
  by_cases c : k + 1 = S.A.n
  · rw [c, upF_same, getD_ne (by omega), ← c]; exact this
  · rw [upF_ne c]; exact this
theorem w14 (h : Pt S top step S.A.n) (o : S.ok) : Pt (S.wr 14 ((top : Int) - step * S.A.n)) top step (S.A.n + 1) := by
  refine ⟨h.s16, h.s20, h.tl, h.t, h.c, fun k hk => ?_, h.m⟩
  show (upF S.A.R (S.A.n + 1) ((S.A.R (S.A.n + 1)).set 6 _) (k + 1)).getD 6 0 = _
  by_cases c : k = S.A.n
  · rw [c, upF_same, getD_set (by rw [o.a.r]; decide)]
  · rw [upF_ne (by omega)]; exact h.r k (by omega)
end Pt
/-- all that the law holds, but its two lists -/
structure K9 (K : PySem.W.Frag) (CB CR : Addr) (τ : Tg) (H : Hp) (st sa : Addr) (ns : List Int) (tb tr mb mr : Addr) (B : Bk) (S : RS) : Prop where
  s : StG K τ H st sa ns
  W : BW CB τ 2 H tb B
  R : RG CR τ 1 H tr mr S
  mb : At τ H mb (.lst (S.M.map V.int)) (5, 0, 0)
  co : Cor B S
namespace K9
variable {K : PySem.W.Frag} {CB CR : Addr} {τ τ' : Tg} {H H' : Hp} {st sa tb tr mb mr : Addr} {ns : List Int} {B : Bk} {S : RS}
theorem st4 (h : K9 K CB CR τ H st sa ns tb tr mb mr B S) (F : Stp τ τ' [4] H H') (s : StG K τ' H' st sa ns) : K9 K CB CR τ' H' st sa ns tb tr mb mr B S :=
  ⟨s, h.W.st F (by simp), h.R.st F (by simp) (by simp), h.mb.st F (by simp), h.co⟩
theorem st0 {Z : List Nat} (h : K9 K CB CR τ H st sa ns tb tr mb mr B S) (F : Stp τ τ' Z H H') (n1 : 1 ∉ Z) (n2 : 2 ∉ Z) (n4 : 4 ∉ Z) (n5 : 5 ∉ Z) (n6 : 6 ∉ Z) (n8 : 8 ∉ Z) : K9 K CB CR τ' H' st sa ns tb tr mb mr B S :=
  ⟨h.s.step F n4 n6, h.W.st F n2, h.R.st F n1 n8, h.mb.st F n5, h.co⟩
theorem same (h : K9 K CB CR τ H st sa ns tb tr mb mr B S) (s : Same H H') : K9 K CB CR τ H' st sa ns tb tr mb mr B S :=
  h.st0 (Stp.same (S := []) s) (by simp) (by simp) (by simp) (by simp) (by simp) (by simp)
end K9
def spLDown (K : PySem.W.Frag) (CB CR : Addr) : Sp := fun vs H Q _ => ∃ (τ : Tg) (st sa : Addr) (ns : List Int) (tb tr mb mr : Addr) (B : Bk) (S : RS) (top step : Nat), vs = [.ref st, .ref tb, .ref tr, .ref mb, .int B.N] ∧ K9 K CB CR τ H st sa ns tb tr mb mr B S ∧ Pt S top step (S.A.n + 1) ∧ S.A.n ≤ 40 ∧
  ∀ τ' H' B' S', K9 K CB CR τ' H' st sa ns tb tr mb mr B' S' → Pt S' top step S'.A.n → S'.A.n = S.A.n + 1 → B'.N = B.N → Stp τ τ' [1, 2, 4, 5, 8] H H' → Q (.bl true) H'
def spLUp (K : PySem.W.Frag) (CB CR : Addr) : Sp := fun vs H Q _ => ∃ (τ : Tg) (st sa : Addr) (ns : List Int) (tb tr mb mr : Addr) (B : Bk) (S : RS) (top step : Nat), vs = [.ref st, .ref tb, .ref tr, .ref mb, .int B.N] ∧ K9 K CB CR τ H st sa ns tb tr mb mr B S ∧ Pt S top step (S.A.n + 1) ∧ 0 < S.A.n ∧ S.A.n ≤ 41 ∧
  ∀ τ' H' B' S', K9 K CB CR τ' H' st sa ns tb tr mb mr B' S' → Pt S' top step (S'.A.n + 1) → S.A.n = S'.A.n + 1 → B'.N = B.N → Stp τ τ' [1, 2, 4, 5, 8] H H' → Q (.bl true) H'
section
variable {P : Program} {w : World} {K : PySem.W.Frag} {mg : Str → Option Value} {base : Heap} {a : Ad}
theorem ok_law_down (T : Txt w K mg a) : FnOk P w K mg base CX0 5 a.f_law_down a.d_law_down ["state", "banks", "ring", "memory", "windows"] (spLDown K a.C_Banks a.C_Ring) := by
  have G_law_pick : FnOk P w K mg base CX0 1 _ _ _ _ := ok_pickG T
  have G_law_handle : FnOk P w K mg base CX0 4 _ _ _ _ := ok_law_handle T
  have G_law_spill : FnOk P w K mg base CX0 1 _ _ _ _ := ok_law_spill T
  have G_Banks_blocked_down : FnOk P w K mg base CX0 2 _ _ _ _ := ok_Banks_blocked_down T
  have G_Banks_trap_down : FnOk P w K mg base CX0 4 _ _ _ _ := ok_Banks_trap_down T
  have G_Banks_shift_down : FnOk P w K mg base CX0 3 _ _ _ _ := ok_Banks_shift_down T
  have G_Ring_shift_down : FnOk P w K mg base CX0 3 _ _ _ _ := FnOk.calm (ok_Ring_shift_down T)
  refine T.F__law_down.ok sc_law_down (fun vs H Q E h => ?_) (fun cdv A outer s H vs Q E hr h => ?_)
  · obtain ⟨_, _, _, _, _, _, _, _, _, _, _, _, rfl, _⟩ := h; rfl
  · obtain ⟨τ, st, sa, ns, tb, tr, mb, mr, B, S, top, step, rfl, J, p, hn, q⟩ := h
    refine ⟨_, (C8.pss_cut (ps_if (pt_truth (pe_meth0 (pv 1) T.cl_Banks T.m_Banks_blocked_down G_Banks_blocked_down (hr.mono (by decide)) T.bd_Banks_blocked_down .nil pass0) (by intro _; rfl)) (pss_cons (ps_set (i := 5) sc_law_down.nd rfl (Or.inl rfl) (pe_call G_law_pick (hr.mono (by decide)) rfl T.g__law_pick T.k__law_pick T.bd__law_pick .nil pass0 (pa_cons (pv 0) (pa_cons pe_int pa_nil))))
      (pss_cons (ps_expr (pe_meth (pv 1) T.cl_Banks T.m_Banks_trap_down G_Banks_trap_down (hr.mono (by decide)) T.bd_Banks_trap_down .nil pass0 (pa_cons (pv 5) pa_nil)))
      (pss_one (ps_if (PW.pt (pw_or (pt_not (pt_val (pe_call G_law_handle (hr.mono (by decide)) rfl T.g__law_handle T.k__law_handle T.bd__law_handle .nil pass0 (pa_cons (pv 1) (pa_cons (pv 3) (pa_cons (pe_call G_law_spill (hr.mono (by decide)) rfl T.g__law_spill T.k__law_spill T.bd__law_spill .nil pass0 (pa_cons (pv 4) pa_nil)) (pa_cons (pv 5) pa_nil))))))) (pw_or1 (pt_truth (pe_meth0 (pv 1) T.cl_Banks T.m_Banks_blocked_down G_Banks_blocked_down (hr.mono (by decide)) T.bd_Banks_blocked_down .nil pass0) (by intro _; rfl))))) (pss_one (ps_ret pe_bl)) pss_nil)))) pss_nil)
      (pss_cons (ps_expr (pe_meth0 (pv 1) T.cl_Banks T.m_Banks_shift_down G_Banks_shift_down (hr.mono (by decide)) T.bd_Banks_shift_down .nil pass0))
      (pss_cons (ps_expr (pe_meth0 (pv 2) T.cl_Ring T.m_Ring_shift_down G_Ring_shift_down (hr.mono (by decide)) T.bd_Ring_shift_down .nil pass0))
      (pss_one (ps_ret pe_bl))))), ?_⟩
    have hb := J.co.so.b
    obtain ⟨dx, gl, wn, wr, Wx⟩ := id J.W
    have u2 : ∀ x ∈ [2], x ∈ [1, 2, 4, 5, 8] := by simp
    have u4 : ∀ x ∈ [4], x ∈ [1, 2, 4, 5, 8] := by simp
    refine ⟨fun σ H' => ∃ τ' B1 S1 x, StG K τ' H' st sa ns ∧ BW a.C_Banks τ' 2 H' tb B1 ∧ RG a.C_Ring τ' 1 H' tr mr S ∧ At τ' H' mb (.lst (S1.M.map V.int)) (5, 0, 0) ∧ Cor B1 S1 ∧ ¬ S1.full ∧ S1.A.n = S.A.n ∧ Pt S1 top step (S.A.n + 1) ∧ S.down = some S1.dn ∧ B1.N = B.N ∧ Stp τ τ' [1, 2, 4, 5, 8] H H' ∧ σ = [some (.ref st), some (.ref tb), some (.ref tr), some (.ref mb), some (.int B.N), x], ?_, ?_⟩
    · refine ⟨_, rfl, tb, dx, _, rfl, Wx.ob.1, bkf_no_blocked_down _ _ _ _ _ _ _, τ, 2, tb, B, rfl, J.W, J.co.bo, _, rfl, ?_⟩
      rw [J.co.bd]
      by_cases f : S.full
      · rw [decide_eq_true f]
        refine iteT ?_
        have li : lies S.M S.sS := by rw [p.sS hb]; exact p.lies (by omega)
        refine ⟨_, rfl, τ, st, sa, ns, 67108864, rfl, J.s, by decide, by decide, fun ad H1 a0 a1 S1 F1 => ?_⟩
        have J := J.st4 F1 S1
        clear S1 Wx
        obtain ⟨dx, gl, wn, wr, Wx⟩ := id J.W
        refine ⟨_, rfl, tb, dx, _, rfl, Wx.ob.1, bkf_no_trap_down _ _ _ _ _ _ _, _, rfl, τ, 2, tb, B, ad, rfl, J.W, J.co.bo, fun H2 W2 F2 => ?_⟩
        obtain ⟨B', e1, e2, e3, e4⟩ := J.co.spill f li ad
        refine ⟨_, rfl, _, rfl, _, rfl, B.N, rfl, fun pr ws H3 np s3 hp hw => ?_⟩
        have F3 := (Stp.refl (τ := τ) (S := [])).sameN s3 np (x := (7, 1, 0))
        have F23 := F2.tr (F3.mono (by simp))
        have W3 := W2.st F3 (by simp)
        have mb3 := J.mb.st F23 (by simp)
        have s3' := J.s.step F23 (by simp) (by simp)
        have R3 := J.R.st F23 (by simp) (by simp)
        refine ⟨_, rfl, tgN τ pr (7, 1, 0), tb, mb, pr, B.td ad, B', S.M, S.spill.M, ws, spillW B.N, ad, rfl, W3, J.co.bo.td ad, mb3, At.in hp, hw, e1, J.co.so.m, fun H4 W4 o4 mb4 F4 => ⟨_, rfl, ?_⟩⟩
        rw [e2, decide_eq_true rfl]
        refine iteF ?_
        obtain ⟨dx, gl, wn, wr, Wx4⟩ := id W4
        refine ⟨_, rfl, tb, dx, _, rfl, Wx4.ob.1, bkf_no_blocked_down _ _ _ _ _ _ _, _, 2, tb, B'.up, rfl, W4, e3.bo, _, rfl, ?_⟩
        have nf := (J.co.so.spill f li).2.1
        rw [e3.bd, decide_eq_false nf]
        exact iteF ⟨_, B'.up, S.spill, _, s3'.step F4 (by simp) (by simp), W4, R3.st F4 (by simp) (by simp), mb4, e3, nf, rfl, p.spill J.co.so hb hn, RS.down_full f li, e3.N.trans J.co.N.symm, (F1.mono u4).tr ((F23.mono u2).tr (F4.mono (by simp))), rfl⟩
      · rw [decide_eq_false f]
        exact iteF ⟨τ, B, S, _, J.s, J.W, J.R, J.mb, J.co, f, rfl, p, RS.down_free f, rfl, Stp.refl, rfl⟩
    rintro σ H1 ⟨τ1, B1, S1, x, s1, W1, R1, mb1, co, nf, en, p1, ed, eN, F1, rfl⟩
    obtain ⟨dx, gl, wn, wr, Wx1⟩ := id W1
    refine ⟨_, rfl, tb, dx, _, rfl, Wx1.ob.1, bkf_no_shift_down _ _ _ _ _ _ _, τ1, 2, tb, B1, rfl, W1, co.bo, fun H2 W2 F2 => ?_⟩
    have R2 := R1.st F2 (by simp) (by simp)
    obtain ⟨dx, vw, ab, ar, Rx⟩ := id R2
    refine ⟨_, rfl, tr, dx, _, rfl, Rx.ob.1, rgf_no_shift_down _ _ _ _ _ _ _ _, τ1, 1, tr, mr, S, rfl, by decide, R2, J.co.so, by omega, fun S' τ3 H3 ed2 R3 F3 => ?_, fun τ3 H3 ed2 _ _ => ?_⟩
    · rw [ed] at ed2
      obtain rfl := Option.some.inj ed2
      have e5 : S1.A.n + 1 = S.A.n + 1 := by rw [en]
      have p2 : Pt S1.dn top step S1.dn.A.n := by
        have := Pt.dn (S := S1) (by rw [en]; exact p1)
        exact this
      have eBN : B1.dn.N = B1.N := by unfold Bk.dn; split <;> rfl
      exact q τ3 H3 B1.dn S1.dn ⟨(s1.step F2 (by simp) (by simp)).step F3 (by simp) (by simp), W2.st F3 (by simp), R3, (mb1.st F2 (by simp)).st F3 (by simp), co.dn nf (by omega)⟩ p2 e5 (eBN.trans eN) (F1.tr ((F2.mono u2).tr (F3.mono (by simp))))
    · rw [ed] at ed2; cases ed2
end

section
variable {P : Program} {w : World} {K : PySem.W.Frag} {mg : Str → Option Value} {base : Heap} {a : Ad}
theorem ok_law_up (T : Txt w K mg a) : FnOk P w K mg base CX0 5 a.f_law_up a.d_law_up ["state", "banks", "ring", "memory", "windows"] (spLUp K a.C_Banks a.C_Ring) := by
  have G_law_pick : FnOk P w K mg base CX0 1 _ _ _ _ := ok_pickG T
  have G_law_handle : FnOk P w K mg base CX0 4 _ _ _ _ := ok_law_handle T
  have G_law_fill : FnOk P w K mg base CX0 1 _ _ _ _ := ok_law_fill T
  have G_Banks_blocked_up : FnOk P w K mg base CX0 2 _ _ _ _ := ok_Banks_blocked_up T
  have G_Banks_trap_up : FnOk P w K mg base CX0 4 _ _ _ _ := ok_Banks_trap_up T
  have G_Banks_shift_up : FnOk P w K mg base CX0 2 _ _ _ _ := ok_Banks_shift_up T
  have G_Ring_shift_up : FnOk P w K mg base CX0 3 _ _ _ _ := FnOk.calm (ok_Ring_shift_up T)
  refine T.F__law_up.ok sc_law_up (fun vs H Q E h => ?_) (fun cdv A outer s H vs Q E hr h => ?_)
  · obtain ⟨_, _, _, _, _, _, _, _, _, _, _, _, rfl, _⟩ := h; rfl
  · obtain ⟨τ, st, sa, ns, tb, tr, mb, mr, B, S, top, step, rfl, J, p, hn0, hn, q⟩ := h
    refine ⟨_, (C8.pss_cut (ps_if (pt_truth (pe_meth0 (pv 1) T.cl_Banks T.m_Banks_blocked_up G_Banks_blocked_up (hr.mono (by decide)) T.bd_Banks_blocked_up .nil pass0) (by intro _; rfl)) (pss_cons (ps_set (i := 5) sc_law_up.nd rfl (Or.inl rfl) (pe_call G_law_pick (hr.mono (by decide)) rfl T.g__law_pick T.k__law_pick T.bd__law_pick .nil pass0 (pa_cons (pv 0) (pa_cons pe_int pa_nil))))
      (pss_cons (ps_expr (pe_meth (pv 1) T.cl_Banks T.m_Banks_trap_up G_Banks_trap_up (hr.mono (by decide)) T.bd_Banks_trap_up .nil pass0 (pa_cons (pv 5) pa_nil)))
      (pss_one (ps_if (PW.pt (pw_or (pt_not (pt_val (pe_call G_law_handle (hr.mono (by decide)) rfl T.g__law_handle T.k__law_handle T.bd__law_handle .nil pass0 (pa_cons (pv 1) (pa_cons (pv 3) (pa_cons (pe_call G_law_fill (hr.mono (by decide)) rfl T.g__law_fill T.k__law_fill T.bd__law_fill .nil pass0 (pa_cons (pv 4) pa_nil)) (pa_cons (pv 5) pa_nil))))))) (pw_or1 (pt_truth (pe_meth0 (pv 1) T.cl_Banks T.m_Banks_blocked_up G_Banks_blocked_up (hr.mono (by decide)) T.bd_Banks_blocked_up .nil pass0) (by intro _; rfl))))) (pss_one (ps_ret pe_bl)) pss_nil)))) pss_nil)
      (pss_cons (ps_expr (pe_meth0 (pv 1) T.cl_Banks T.m_Banks_shift_up G_Banks_shift_up (hr.mono (by decide)) T.bd_Banks_shift_up .nil pass0))
      (pss_cons (ps_expr (pe_meth0 (pv 2) T.cl_Ring T.m_Ring_shift_up G_Ring_shift_up (hr.mono (by decide)) T.bd_Ring_shift_up .nil pass0))
      (pss_one (ps_ret pe_bl))))), ?_⟩
    have hb := J.co.so.b
    obtain ⟨dx, gl, wn, wr, Wx⟩ := id J.W
    have u2 : ∀ x ∈ [2], x ∈ [1, 2, 4, 5, 8] := by simp
    have u4 : ∀ x ∈ [4], x ∈ [1, 2, 4, 5, 8] := by simp
    refine ⟨fun σ H' => ∃ τ' B1 S1 x, StG K τ' H' st sa ns ∧ BW a.C_Banks τ' 2 H' tb B1 ∧ RG a.C_Ring τ' 1 H' tr mr S ∧ At τ' H' mb (.lst (S1.M.map V.int)) (5, 0, 0) ∧ Cor B1 S1 ∧ S1.b < S1.A.n ∧ S1.A.n = S.A.n ∧ Pt S1 top step S.A.n ∧ S.up = some S1.up1 ∧ B1.N = B.N ∧ Stp τ τ' [1, 2, 4, 5, 8] H H' ∧ σ = [some (.ref st), some (.ref tb), some (.ref tr), some (.ref mb), some (.int B.N), x], ?_, ?_⟩
    · refine ⟨_, rfl, tb, dx, _, rfl, Wx.ob.1, bkf_no_blocked_up _ _ _ _ _ _ _, τ, 2, tb, B, rfl, J.W, J.co.bo, _, rfl, ?_⟩
      rw [J.co.bu]
      by_cases f : S.b = S.A.n
      · rw [decide_eq_true f]
        refine iteT ?_
        obtain ⟨m, hm⟩ : ∃ m, S.A.n = m + 1 := ⟨S.A.n - 1, by omega⟩
        have li : lies S.M S.fS := by rw [p.fS hm]; exact p.lies (by omega)
        refine ⟨_, rfl, τ, st, sa, ns, 67108864, rfl, J.s, by decide, by decide, fun ad H1 a0 a1 S1 F1 => ?_⟩
        have J := J.st4 F1 S1
        clear S1 Wx
        obtain ⟨dx, gl, wn, wr, Wx⟩ := id J.W
        refine ⟨_, rfl, tb, dx, _, rfl, Wx.ob.1, bkf_no_trap_up _ _ _ _ _ _ _, _, rfl, τ, 2, tb, B, ad, rfl, J.W, J.co.bo, fun H2 W2 F2 => ?_⟩
        obtain ⟨B', e1, e2, e3, e4⟩ := J.co.fill f hn0 li ad
        refine ⟨_, rfl, _, rfl, _, rfl, B.N, rfl, fun pr ws H3 np s3 hp hw => ?_⟩
        have F3 := (Stp.refl (τ := τ) (S := [])).sameN s3 np (x := (7, 1, 0))
        have F23 := F2.tr (F3.mono (by simp))
        have W3 := W2.st F3 (by simp)
        have mb3 := J.mb.st F23 (by simp)
        have s3' := J.s.step F23 (by simp) (by simp)
        have R3 := J.R.st F23 (by simp) (by simp)
        refine ⟨_, rfl, tgN τ pr (7, 1, 0), tb, mb, pr, B.tu ad, B', S.M, S.fill.M, ws, fillW B.N, ad, rfl, W3, J.co.bo.tu ad, mb3, At.in hp, hw, e1, J.co.so.m, fun H4 W4 o4 mb4 F4 => ⟨_, rfl, ?_⟩⟩
        rw [e2, decide_eq_true rfl]
        refine iteF ?_
        obtain ⟨dx, gl, wn, wr, Wx4⟩ := id W4
        refine ⟨_, rfl, tb, dx, _, rfl, Wx4.ob.1, bkf_no_blocked_up _ _ _ _ _ _ _, _, 2, tb, B'.up, rfl, W4, e3.bo, _, rfl, ?_⟩
        have nf : S.fill.b < S.fill.A.n := (J.co.so.fill f hn0 li).2
        rw [e3.bu, decide_eq_false (Nat.ne_of_lt nf)]
        exact iteF ⟨_, B'.up, S.fill, _, s3'.step F4 (by simp) (by simp), W4, R3.st F4 (by simp) (by simp), mb4, e3, nf, rfl, p.fill J.co.so f hm hn, RS.up_low f li, e3.N.trans J.co.N.symm, (F1.mono u4).tr ((F23.mono u2).tr (F4.mono (by simp))), rfl⟩
      · rw [decide_eq_false f]
        exact iteF ⟨τ, B, S, _, J.s, J.W, J.R, J.mb, J.co, by omega, rfl, p.less (Nat.le_succ _), RS.up_free f, rfl, Stp.refl, rfl⟩
    rintro σ H1 ⟨τ1, B1, S1, x, s1, W1, R1, mb1, co, nf, en, p1, ed, eN, F1, rfl⟩
    obtain ⟨dx, gl, wn, wr, Wx1⟩ := id W1
    refine ⟨_, rfl, tb, dx, _, rfl, Wx1.ob.1, bkf_no_shift_up _ _ _ _ _ _ _, τ1, 2, tb, B1, rfl, W1, co.bo, fun H2 W2 F2 => ?_⟩
    have R2 := R1.st F2 (by simp) (by simp)
    obtain ⟨dx, vw, ab, ar, Rx⟩ := id R2
    refine ⟨_, rfl, tr, dx, _, rfl, Rx.ob.1, rgf_no_shift_up _ _ _ _ _ _ _ _, τ1, 1, tr, mr, S, rfl, by decide, R2, J.co.so, hn0, fun S' τ3 H3 ed2 R3 F3 => ?_, fun τ3 H3 ed2 _ _ => ?_⟩
    · rw [ed] at ed2
      obtain rfl := Option.some.inj ed2
      have p2 : Pt S1.up1 top step (S1.up1.A.n + 1) := Pt.up1 (by rw [en]; exact p1) (by omega)
      have e5 : S.A.n = S1.up1.A.n + 1 := by show S.A.n = S1.A.n - 1 + 1; omega
      exact q τ3 H3 B1.up S1.up1 ⟨(s1.step F2 (by simp) (by simp)).step F3 (by simp) (by simp), W2.st F3 (by simp), R3, (mb1.st F2 (by simp)).st F3 (by simp), co.up nf⟩ p2 e5 eN (F1.tr ((F2.mono u2).tr (F3.mono (by simp))))
    · rw [ed] at ed2; cases ed2
end
theorem neF {x y : Int} (h : x = y) : (!decide (V.int x = V.int y)) = false := by rw [h]; simp
theorem dp_ints {K : PySem.W.Frag} {H : Hp} : ∀ rs : List Int, DpAll K H (rs.map V.int) (rs.map PyData.int)
  | [] => .nil
  | x :: rs => .cons (.int x) (dp_ints rs)
theorem lay_ints : ∀ rs : List Int, PyData.canLayAll0 (rs.map PyData.int) = true
  | [] => rfl
  | x :: rs => by
    show (PyData.canLay0 (.int x) && PyData.canLayAll0 (rs.map PyData.int)) = true
    rw [lay_ints rs] <;> rfl
theorem depth_ints : ∀ rs : List Int, PyData.depthAll (rs.map PyData.int) ≤ 1
  | [] => by simp [PyData.depthAll]
  | x :: rs => by
    have := depth_ints rs
    simp only [List.map_cons, PyData.depthAll, PyData.depth]
    omega
theorem shaped_ints (rs : List Int) : SeqAt.shaped (.list (rs.map PyData.int)) = true := by
  have := depth_ints rs
  unfold SeqAt.shaped
  rw [show PyData.canLay0 (.list (rs.map PyData.int)) = true from lay_ints rs, Bool.true_and]
  refine decide_eq_true ?_
  simp only [PyData.depth]
  omega

/-- the law's two lists besides -/
structure L9 (K : PySem.W.Frag) (CB CR : Addr) (τ : Tg) (H : Hp) (st sa : Addr) (ns : List Int) (tb tr mb mr mm sh : Addr) (top step : Nat) (B : Bk) (S : RS) : Prop where
  j : K9 K CB CR τ H st sa ns tb tr mb mr B S
  mm : At τ H mm (.lst [.ref mb, .ref mr]) (9, 0, 0)
  sh : At τ H sh (.lst [.int top, .int step, .int S.A.n]) (10, 0, 0)
  p : Pt S top step (S.A.n + 1)
def spBoth (K : PySem.W.Frag) (CB CR : Addr) : Sp := fun vs H Q _ => ∃ (τ : Tg) (st sa : Addr) (ns : List Int) (tb tr mb mr : Addr) (B : Bk) (S : RS) (j : Nat) (x : Int), vs = [.ref tb, .ref tr, .int x, .int j] ∧ K9 K CB CR τ H st sa ns tb tr mb mr B S ∧ j < 32 ∧
  ∀ H', K9 K CB CR τ H' st sa ns tb tr mb mr (B.wr j x) (S.wr j x) → Stp τ τ [1, 2] H H' → Q .non H'
def spSame (K : PySem.W.Frag) (CB CR : Addr) : Sp := fun vs H Q _ => ∃ (τ : Tg) (st sa : Addr) (ns : List Int) (tb tr mb mr mm : Addr) (B : Bk) (S : RS), vs = [.ref tb, .ref tr, .ref mm] ∧ K9 K CB CR τ H st sa ns tb tr mb mr B S ∧ At τ H mm (.lst [.ref mb, .ref mr]) (9, 0, 0) ∧
  ∀ H', Same H H' → Q (.bl true) H'
section
variable {P : Program} {w : World} {K : PySem.W.Frag} {mg : Str → Option Value} {base : Heap} {a : Ad}
theorem ok_law_both (T : Txt w K mg a) : FnOk P w K mg base CX0 3 a.f_law_both a.d_law_both ["banks", "ring", "word", "number"] (spBoth K a.C_Banks a.C_Ring) := by
  have G_Banks_write : FnOk P w K mg base CX0 2 _ _ _ _ := ok_Banks_write T
  have G_Ring_write : FnOk P w K mg base CX0 1 _ _ _ _ := ok_Ring_write T
  refine T.F__law_both.ok sc_law_both (fun vs H Q E h => ?_) (fun cdv A outer s H vs Q E hr h => ?_)
  · obtain ⟨_, _, _, _, _, _, _, _, _, _, _, _, rfl, _⟩ := h; rfl
  · obtain ⟨τ, st, sa, ns, tb, tr, mb, mr, B, S, j, x, rfl, J, hj, q⟩ := h
    refine ⟨_, (pss_cons (ps_expr (pe_meth (pv 0) T.cl_Banks T.m_Banks_write G_Banks_write (hr.mono (by decide)) T.bd_Banks_write .nil pass0 (pa_cons (pv 3) (pa_cons (pv 2) pa_nil))))
      (pss_one (ps_expr (pe_meth (pv 1) T.cl_Ring T.m_Ring_write G_Ring_write (hr.mono (by decide)) T.bd_Ring_write .nil pass0 (pa_cons (pv 3) (pa_cons (pv 2) pa_nil)))))), ?_⟩
    obtain ⟨dx, gl, wn, wr, Wx⟩ := id J.W
    refine ⟨_, rfl, tb, dx, _, rfl, Wx.ob.1, bkf_no_write _ _ _ _ _ _ _, _, rfl, _, rfl, τ, 2, tb, B, j, x, rfl, J.W, J.co.bo, hj, fun H1 W1 F1 => ?_⟩
    have R1 := J.R.st F1 (by simp) (by simp)
    obtain ⟨dx, vw, ab, ar, Rx⟩ := id R1
    refine ⟨_, rfl, tr, dx, _, rfl, Rx.ob.1, rgf_no_write _ _ _ _ _ _ _ _, _, rfl, _, rfl, τ, 1, tr, mr, S, j, x, rfl, by decide, R1, J.co.so, hj, fun H2 R2 F2 => ?_⟩
    have F : Stp τ τ [1, 2] H H2 := (F1.mono (by simp)).tr (F2.mono (by simp))
    exact q H2 ⟨J.s.step F (by simp) (by simp), W1.st F2 (by simp), R2, J.mb.st F (by simp), J.co.wr hj x⟩ F
theorem ok_law_same (T : Txt w K mg a) : FnOk P w K mg base CX0 3 a.f_law_same a.d_law_same ["banks", "ring", "memories"] (spSame K a.C_Banks a.C_Ring) := by
  have G_law_is_integer : FnOk P w K mg base CX0 1 _ _ _ _ := ok_law_is_integer T
  have G_Banks_read : FnOk P w K mg base CX0 2 _ _ _ _ := ok_Banks_read T
  have G_Ring_read : FnOk P w K mg base CX0 1 _ _ _ _ := ok_Ring_read T
  refine T.F__law_same.ok sc_law_same (fun vs H Q E h => ?_) (fun cdv A outer s H vs Q E hr h => ?_)
  · obtain ⟨_, _, _, _, _, _, _, _, _, _, _, rfl, _⟩ := h; rfl
  · obtain ⟨τ, st, sa, ns, tb, tr, mb, mr, mm, B, S, rfl, J, hmm, q⟩ := h
    refine ⟨_, (pss_cons (ps_for PassesOwn.never rfl (pi_range1 rfl T.b_range (pa_cons pe_int pa_nil)) (pg_name (i := 3) sc_law_same.nd rfl (Or.inl rfl)) (pss_cons (ps_set (i := 4) sc_law_same.nd rfl (Or.inl rfl) (pe_meth (pv 0) T.cl_Banks T.m_Banks_read G_Banks_read (hr.mono (by decide)) T.bd_Banks_read .nil pass0 (pa_cons (pv 3) pa_nil)))
      (pss_cons (ps_set (i := 5) sc_law_same.nd rfl (Or.inl rfl) (pe_meth (pv 1) T.cl_Ring T.m_Ring_read G_Ring_read (hr.mono (by decide)) T.bd_Ring_read .nil pass0 (pa_cons (pv 3) pa_nil)))
      (pss_one (ps_if (PW.pt (pw_or (pt_not (pt_val (pe_call G_law_is_integer (hr.mono (by decide)) rfl T.g__law_is_integer T.k__law_is_integer T.bd__law_is_integer .nil pass0 (pa_cons (pv 4) pa_nil)))) (pw_or (pt_not (pt_val (pe_call G_law_is_integer (hr.mono (by decide)) rfl T.g__law_is_integer T.k__law_is_integer T.bd__law_is_integer .nil pass0 (pa_cons (pv 5) pa_nil)))) (pw_or1 (pt_cmpR op_ne (pv 4) (pv 5) (nomark _)))))) (pss_one (ps_ret pe_bl)) pss_nil)))))
      (pss_cons (ps_set (i := 6) sc_law_same.nd rfl (Or.inl rfl) (pe_lst (pa_cons (pe_fld (pv 0) rfl) (pa_cons (pe_fld (pv 0) rfl) (pa_cons (pe_fld (pv 0) rfl) pa_nil)))))
      (pss_cons (ps_set (i := 5) sc_law_same.nd rfl (Or.inl rfl) (pe_lst (pa_cons (pe_fld (pv 1) rfl) (pa_cons (pe_fld (pv 1) rfl) (pa_cons (pe_fld (pv 1) rfl) pa_nil)))))
      (pss_one (ps_ret (pe_and (pe_cmpR (op_eqD hr.units) (pv 6) (pv 5) (nomark _)) (pe_one (pe_cmpR (op_eqD hr.units) (pe_ix ix_list (pv 2) pe_int (fun _ _ => rfl)) (pe_ix ix_list (pv 2) pe_int (fun _ _ => rfl)) (nomark _))))))))), ?_⟩
    obtain ⟨dx, gl, wn, wr, Wx⟩ := id J.W
    obtain ⟨dy, vw, ab, ar, Rx⟩ := id J.R
    refine ⟨_, rfl, by decide, by decide, for_range (lo := 0) (n := (32 : Int).toNat) (fun _ σ H' => H = H' ∧ ∃ x y z, σ = [some (.ref tb), some (.ref tr), some (.ref mm), x, y, z, none]) ⟨rfl, none, none, none, rfl⟩ ?_ ?_⟩
    · rintro k σ H1 hk ⟨rfl, x, y, z, rfl⟩
      rw [show (0 : Int) + (k : Int) = (k : Int) from Int.zero_add _]
      refine ⟨_, rfl, tb, dx, _, rfl, Wx.ob.1, bkf_no_read _ _ _ _ _ _ _, _, rfl, τ, 2, tb, B, k, rfl, J.W, J.co.bo, hk, ?_⟩
      refine ⟨_, rfl, tr, dy, _, rfl, Rx.ob.1, rgf_no_read _ _ _ _ _ _ _ _, _, rfl, τ, 1, tr, mr, S, k, rfl, J.R, J.co.so, hk, ?_⟩
      refine ⟨_, rfl, _, rfl, _, rfl, iteF ⟨_, rfl, _, rfl, _, rfl, iteF ⟨_, rfl, _, rfl, rfl, _, rfl, ?_⟩⟩⟩
      rw [neF (J.co.rd hk)]
      exact iteF ⟨rfl, _, _, _, rfl⟩
    rintro σ H1 ⟨rfl, x, y, z, rfl⟩
    refine ⟨_, rfl, tb, a.C_Banks, dx, _, _, rfl, Wx.ob.1, T.cl_Banks, T.n_Banks_depth, bkf_depth _ _ _ _ _ _ _, _, rfl, tb, a.C_Banks, dx, _, _, rfl, Wx.ob.1, T.cl_Banks, T.n_Banks_spills, bkf_spills _ _ _ _ _ _ _, _, rfl, tb, a.C_Banks, dx, _, _, rfl, Wx.ob.1, T.cl_Banks, T.n_Banks_fills, bkf_fills _ _ _ _ _ _ _, (by show 3 ≤ sizeLine; decide), fun p1 n1 => ?_⟩
    have s1 := sN (Same.refl H) n1 (o := .lst (([B.d, B.s, B.f] : List Int).map V.int))
    have h1 : upd H p1 (.lst (([B.d, B.s, B.f] : List Int).map V.int)) p1 = some (.lst (([B.d, B.s, B.f] : List Int).map V.int)) := upd_same
    have ob := s1 _ _ Rx.ob.1
    refine ⟨_, rfl, tr, a.C_Ring, dy, _, _, rfl, ob, T.cl_Ring, T.n_Ring_depth, rgf_depth _ _ _ _ _ _ _ _, _, rfl, tr, a.C_Ring, dy, _, _, rfl, ob, T.cl_Ring, T.n_Ring_spills, rgf_spills _ _ _ _ _ _ _ _, _, rfl, tr, a.C_Ring, dy, _, _, rfl, ob, T.cl_Ring, T.n_Ring_fills, rgf_fills _ _ _ _ _ _ _ _, (by show 3 ≤ sizeLine; decide), fun p2 n2 => ?_⟩
    rw [J.co.d, J.co.s, J.co.f] at s1 h1 n2 ⊢
    have s2 := sN (Same.refl _) n2 (o := .lst (([(S.A.n : Int), S.sp, S.fi] : List Int).map V.int))
    have h2 := s2 _ _ h1
    have h3 : upd (upd H p1 (.lst (([(S.A.n : Int), S.sp, S.fi] : List Int).map V.int))) p2 (.lst (([(S.A.n : Int), S.sp, S.fi] : List Int).map V.int)) p2 = some (.lst (([(S.A.n : Int), S.sp, S.fi] : List Int).map V.int)) := upd_same
    have sa := s1.trans s2
    refine ⟨_, rfl, _, rfl, _, _, .lst (SqL.of h2) (dp_ints _), .lst (SqL.of h3) (dp_ints _), shaped_ints _, shaped_ints _, true, congrArg V.bl (SeqAt.eqv_refl _ (lay_ints _)), iteT ?_⟩
    refine ⟨_, rfl, _, _, _, _, rfl, rfl, SqL.of (sa _ _ hmm.1), at0, _, rfl, _, _, _, _, rfl, rfl, SqL.of (sa _ _ hmm.1), atI_nat (j := 1) rfl, _, _, .lst (SqL.of (sa _ _ J.mb.1)) (dp_ints _), .lst (SqL.of (sa _ _ Rx.me.1)) (dp_ints _), shaped_ints _, shaped_ints _, ?_⟩
    have q' := q _ sa
    rw [← SeqAt.eqv_refl (.list (S.M.map PyData.int)) (lay_ints _)] at q'
    exact q'
end

/-! ### words -/
def spWordG (K : PySem.W.Frag) : Sp := fun vs H Q _ => ∃ (τ : Tg) (st sa : Addr) (ns : List Int), vs = [.ref st] ∧ StG K τ H st sa ns ∧ ∀ (τ' : Tg) (v : Int) (H' : Hp), -2147483648 ≤ v → v ≤ 2147483647 → StG K τ' H' st sa ns → Stp τ τ' [4] H H' → Q (.int v) H'
theorem w4 (j : Nat) (h : j < 4) : ∃ x, [V.int 2147483647, V.int (-2147483648), V.int 2147483646, V.int (-2147483647)][j]? = some (V.int x) ∧ -2147483648 ≤ x ∧ x ≤ 2147483647 := by
  match j, h with
  | 0, _ => exact ⟨_, rfl, by decide, by decide⟩
  | 1, _ => exact ⟨_, rfl, by decide, by decide⟩
  | 2, _ => exact ⟨_, rfl, by decide, by decide⟩
  | 3, _ => exact ⟨_, rfl, by decide, by decide⟩
section
variable {P : Program} {w : World} {K : PySem.W.Frag} {mg : Str → Option Value} {base : Heap} {a : Ad}
theorem ok_law_word (T : Txt w K mg a) : FnOk P w K mg base CX0 2 a.f_law_word a.d_law_word ["state"] (spWordG K) := by
  have G_law_pick : FnOk P w K mg base CX0 1 _ _ _ _ := ok_pickG T
  refine T.F__law_word.ok sc_law_word (fun vs H Q E h => ?_) (fun cdv A outer s H vs Q E hr h => ?_)
  · obtain ⟨_, _, _, _, rfl, _⟩ := h; rfl
  · obtain ⟨τ, st, sa, ns, rfl, S, q⟩ := h
    refine ⟨_, (pss_cons (ps_set (i := 1) sc_law_word.nd rfl (Or.inl rfl) (pe_call G_law_pick (hr.mono (by decide)) rfl T.g__law_pick T.k__law_pick T.bd__law_pick .nil pass0 (pa_cons (pv 0) (pa_cons pe_int pa_nil))))
      (pss_cons (ps_if (pt_cmpR op_eq (pv 1) pe_int (nomark _)) (pss_one (ps_ret (pe_ix ix_list (pe_lst (pa_cons pe_int (pa_cons (pe_un un_neg pe_int) (pa_cons pe_int (pa_cons (pe_un un_neg pe_int) pa_nil))))) (pe_call G_law_pick (hr.mono (by decide)) rfl T.g__law_pick T.k__law_pick T.bd__law_pick .nil pass0 (pa_cons (pv 0) (pa_cons pe_int pa_nil))) (fun _ _ => rfl)))) pss_nil)
      (pss_cons (ps_if (pt_cmpR op_eq (pv 1) pe_int (nomark _)) (pss_one (ps_ret (pe_op op_sub (pe_call G_law_pick (hr.mono (by decide)) rfl T.g__law_pick T.k__law_pick T.bd__law_pick .nil pass0 (pa_cons (pv 0) (pa_cons pe_int pa_nil))) pe_int))) pss_nil)
      (pss_cons (ps_if (pt_cmpR op_eq (pv 1) pe_int (nomark _)) (pss_one (ps_ret (pe_op op_sub (pe_call G_law_pick (hr.mono (by decide)) rfl T.g__law_pick T.k__law_pick T.bd__law_pick .nil pass0 (pa_cons (pv 0) (pa_cons pe_int pa_nil))) pe_int))) pss_nil)
      (pss_one (ps_ret (pe_op op_sub (pe_call G_law_pick (hr.mono (by decide)) rfl T.g__law_pick T.k__law_pick T.bd__law_pick .nil pass0 (pa_cons (pv 0) (pa_cons pe_int pa_nil))) pe_int))))))), ?_⟩
    refine ⟨_, rfl, τ, st, sa, ns, 5, rfl, S, by decide, by decide, fun k H1 k0 k7 S1 F1 => ?_⟩
    refine ⟨_, rfl, rfl, _, rfl, ite3 (fun e => ?_) (fun e => ?_)⟩
    · refine ⟨_, rfl, _, rfl, (by show 4 ≤ sizeLine; decide), fun p np => ?_⟩
      have F2 := F1.new np (o := .lst [V.int 2147483647, V.int (-2147483648), V.int 2147483646, V.int (-2147483647)]) (x := (9, 0, 0))
      have S2 := S1.step ((Stp.refl (τ := τ) (S := [])).new np (o := .lst [V.int 2147483647, V.int (-2147483648), V.int 2147483646, V.int (-2147483647)]) (x := (9, 0, 0))) (by simp) (by simp)
      have ap : At (tgN τ p (9, 0, 0)) (upd H1 p (.lst [V.int 2147483647, V.int (-2147483648), V.int 2147483646, V.int (-2147483647)])) p _ _ := At.mk
      refine ⟨_, rfl, _, st, sa, ns, 4, rfl, S2, by decide, by decide, fun v H3 v0 v1 S3 F3 => ?_⟩
      obtain ⟨j, rfl⟩ : ∃ j : Nat, v = (j : Int) := ⟨v.toNat, by omega⟩
      obtain ⟨x, hx, x0, x1⟩ := w4 j (by omega)
      exact ⟨_, _, _, _, rfl, rfl, SqL.of (ap.st F3 (by decide)).1, atI_nat hx, q _ _ _ x0 x1 S3 (F2.tr F3)⟩
    refine ⟨_, rfl, rfl, _, rfl, ite3 (fun e => ?_) (fun e => ?_)⟩
    · refine ⟨_, rfl, τ, st, sa, ns, 4294967296, rfl, S1, by decide, by decide, fun v H2 v0 v1 S2 F2 => ⟨_, _, rfl, rfl, ?_⟩⟩
      exact q _ _ _ (by omega) (by omega) S2 (F1.tr F2)
    refine ⟨_, rfl, rfl, _, rfl, ite3 (fun e => ?_) (fun e => ?_)⟩
    · refine ⟨_, rfl, τ, st, sa, ns, 131072, rfl, S1, by decide, by decide, fun v H2 v0 v1 S2 F2 => ⟨_, _, rfl, rfl, ?_⟩⟩
      exact q _ _ _ (by omega) (by omega) S2 (F1.tr F2)
    · refine ⟨_, rfl, τ, st, sa, ns, 13, rfl, S1, by decide, by decide, fun v H2 v0 v1 S2 F2 => ⟨_, _, rfl, rfl, ?_⟩⟩
      exact q _ _ _ (by omega) (by omega) S2 (F1.tr F2)
end

def spDeed9 (K : PySem.W.Frag) (CB CR : Addr) : Sp := fun vs H Q _ => ∃ (τ : Tg) (st sa : Addr) (ns : List Int) (tb tr mb mr mm sh : Addr) (top step : Nat) (B : Bk) (S : RS), vs = [.ref st, .ref tb, .ref tr, .ref mm, .int B.N, .ref sh] ∧ L9 K CB CR τ H st sa ns tb tr mb mr mm sh top step B S ∧ S.A.n ≤ 40 ∧
  ∀ τ' H' B' S', L9 K CB CR τ' H' st sa ns tb tr mb mr mm sh top step B' S' → S'.A.n ≤ S.A.n + 1 → B'.N = B.N → Q (.bl true) H'
theorem L9.st4 {K : PySem.W.Frag} {CB CR : Addr} {τ τ' : Tg} {H H' : Hp} {st sa tb tr mb mr mm sh : Addr} {ns : List Int} {top step : Nat} {B : Bk} {S : RS} (h : L9 K CB CR τ H st sa ns tb tr mb mr mm sh top step B S) (F : Stp τ τ' [4] H H') (s : StG K τ' H' st sa ns) : L9 K CB CR τ' H' st sa ns tb tr mb mr mm sh top step B S :=
  ⟨h.j.st4 F s, h.mm.st F (by simp), h.sh.st F (by simp), h.p⟩
section
variable {P : Program} {w : World} {K : PySem.W.Frag} {mg : Str → Option Value} {base : Heap} {a : Ad}
theorem ok_law_deed (T : Txt w K mg a) : FnOk P w K mg base CX0 6 a.f_law_deed a.d_law_deed ["state", "banks", "ring", "memories", "windows", "shape"] (spDeed9 K a.C_Banks a.C_Ring) := by
  have G_law_pick : FnOk P w K mg base CX0 1 _ _ _ _ := ok_pickG T
  have G_law_word : FnOk P w K mg base CX0 2 _ _ _ _ := ok_law_word T
  have G_law_down : FnOk P w K mg base CX0 5 _ _ _ _ := ok_law_down T
  have G_law_up : FnOk P w K mg base CX0 5 _ _ _ _ := ok_law_up T
  have G_law_both : FnOk P w K mg base CX0 3 _ _ _ _ := ok_law_both T
  have G_law_same : FnOk P w K mg base CX0 3 _ _ _ _ := ok_law_same T
  refine T.F__law_deed.ok sc_law_deed (fun vs H Q E h => ?_) (fun cdv A outer s H vs Q E hr h => ?_)
  · obtain ⟨_, _, _, _, _, _, _, _, _, _, _, _, _, _, rfl, _⟩ := h; rfl
  · obtain ⟨τ, st, sa, ns, tb, tr, mb, mr, mm, sh, top, step, B, S, rfl, L, hn, q⟩ := h
    refine ⟨_, (pss_cons (ps_set (i := 6) sc_law_deed.nd rfl (Or.inl rfl) (pe_call G_law_pick (hr.mono (by decide)) rfl T.g__law_pick T.k__law_pick T.bd__law_pick .nil pass0 (pa_cons (pv 0) (pa_cons pe_int pa_nil))))
      (pss_cons (ps_if (pt_cmpR op_lt (pv 6) pe_int (nomark _)) (C8.pss_cut (ps_if (pt_not (pt_val (pe_call G_law_down (hr.mono (by decide)) rfl T.g__law_down T.k__law_down T.bd__law_down .nil pass0 (pa_cons (pv 0) (pa_cons (pv 1) (pa_cons (pv 2) (pa_cons (pe_ix ix_list (pv 3) pe_int (fun _ _ => rfl)) (pa_cons (pv 4) pa_nil)))))))) (pss_one (ps_ret pe_bl)) pss_nil)
      (C8.pss_cut (ps_asg (pe_op op_add (pe_ix ix_list (pv 5) pe_int (fun _ _ => rfl)) pe_int) (pg_sub (pv 5) pe_int set_list))
      (pss_one (ps_expr (pe_call G_law_both (hr.mono (by decide)) rfl T.g__law_both T.k__law_both T.bd__law_both .nil pass0 (pa_cons (pv 1) (pa_cons (pv 2) (pa_cons (pe_op op_sub (pe_ix ix_list (pv 5) pe_int (fun _ _ => rfl)) (pe_op op_mul (pe_ix ix_list (pv 5) pe_int (fun _ _ => rfl)) (pe_ix ix_list (pv 5) pe_int (fun _ _ => rfl)))) (pa_cons pe_int pa_nil))))))))) (pss_one (ps_if (pt_cmpR op_lt (pv 6) pe_int (nomark _)) (pss_one (ps_if (pt_cmpR op_gt (pe_ix ix_list (pv 5) pe_int (fun _ _ => rfl)) pe_int (nomark _)) (C8.pss_cut (ps_asg (pe_op op_sub (pe_ix ix_list (pv 5) pe_int (fun _ _ => rfl)) pe_int) (pg_sub (pv 5) pe_int set_list))
      (pss_one (ps_ret (pe_call G_law_up (hr.mono (by decide)) rfl T.g__law_up T.k__law_up T.bd__law_up .nil pass0 (pa_cons (pv 0) (pa_cons (pv 1) (pa_cons (pv 2) (pa_cons (pe_ix ix_list (pv 3) pe_int (fun _ _ => rfl)) (pa_cons (pv 4) pa_nil))))))))) pss_nil)) (pss_one (ps_if (pt_cmpR op_lt (pv 6) pe_int (nomark _)) (pss_cons (ps_set (i := 7) sc_law_deed.nd rfl (Or.inl rfl) (pe_call G_law_pick (hr.mono (by decide)) rfl T.g__law_pick T.k__law_pick T.bd__law_pick .nil pass0 (pa_cons (pv 0) (pa_cons pe_int pa_nil))))
      (pss_one (ps_if (PW.pt (pw_and (pt_cmpR op_ne (pv 7) pe_int (nomark _)) (pw_and1 (pt_cmpR op_ne (pv 7) pe_int (nomark _))))) (pss_one (ps_expr (pe_call G_law_both (hr.mono (by decide)) rfl T.g__law_both T.k__law_both T.bd__law_both .nil pass0 (pa_cons (pv 1) (pa_cons (pv 2) (pa_cons (pe_call G_law_word (hr.mono (by decide)) rfl T.g__law_word T.k__law_word T.bd__law_word .nil pass0 (pa_cons (pv 0) pa_nil)) (pa_cons (pv 7) pa_nil))))))) pss_nil))) (pss_one (ps_ret (pe_call G_law_same (hr.mono (by decide)) rfl T.g__law_same T.k__law_same T.bd__law_same .nil pass0 (pa_cons (pv 1) (pa_cons (pv 2) (pa_cons (pv 3) pa_nil)))))))))))
      (pss_one (ps_ret pe_bl)))), ?_⟩
    refine ⟨_, rfl, τ, st, sa, ns, 12, rfl, L.j.s, by decide, by decide, fun c H1 c0 c1 S1 F1 => ?_⟩
    have L := L.st4 F1 S1
    clear S1 F1
    refine ⟨_, rfl, _, _, rfl, rfl, _, rfl, ite3 (fun e => ?_) (fun e => ?_)⟩
    · refine ⟨fun σ H' => ∃ τ' B' S', K9 K a.C_Banks a.C_Ring τ' H' st sa ns tb tr mb mr B' S' ∧ Pt S' top step S'.A.n ∧ S'.A.n = S.A.n + 1 ∧ B'.N = B.N ∧ At τ' H' mm (.lst [.ref mb, .ref mr]) (9, 0, 0) ∧ At τ' H' sh (.lst [.int top, .int step, .int S.A.n]) (10, 0, 0) ∧ σ = [some (.ref st), some (.ref tb), some (.ref tr), some (.ref mm), some (.int B.N), some (.ref sh), some (.int c), none], ?_, ?_⟩
      · refine ⟨_, rfl, _, rfl, _, rfl, _, rfl, _, _, _, _, rfl, rfl, SqL.of L.mm.1, at0, _, rfl, τ, st, sa, ns, tb, tr, mb, mr, B, S, top, step, rfl, L.j, L.p, hn, fun τ' H' B' S' j' p' n' N' F' => ⟨_, rfl, iteF ⟨τ', B', S', j', p', n', N', L.mm.st F' (by simp), L.sh.st F' (by simp), rfl⟩⟩⟩
      clear L
      rintro σ H2 ⟨τ2, B2, S2, J, p2, n2, N2, hmm, hsh, rfl⟩
      refine ⟨fun σ H' => ∃ B' S', K9 K a.C_Banks a.C_Ring τ2 H' st sa ns tb tr mb mr B' S' ∧ Pt S' top step S'.A.n ∧ S'.A.n = S.A.n + 1 ∧ B'.N = B.N ∧ At τ2 H' mm (.lst [.ref mb, .ref mr]) (9, 0, 0) ∧ At τ2 H' sh (.lst [.int top, .int step, .int S'.A.n]) (10, 0, 0) ∧ σ = [some (.ref st), some (.ref tb), some (.ref tr), some (.ref mm), some (.int B.N), some (.ref sh), some (.int c), none], ?_, ?_⟩
      · refine ⟨_, rfl, _, _, _, _, rfl, rfl, SqL.of hsh.1, atI_nat (j := 2) rfl, _, _, rfl, rfl, _, rfl, _, _, _, 2, rfl, rfl, hsh.1, rfl, ?_⟩
        have F := (Stp.refl (τ := τ2) (S := [10]) (H := H2)).put (o := .lst [.int top, .int step, .int (S.A.n + 1)]) (mem1 hsh.2 rfl)
        refine ⟨B2, S2, J.st0 F (by simp) (by simp) (by simp) (by simp) (by simp) (by simp), p2, n2, N2, hmm.st F (by simp), ?_, rfl⟩
        rw [n2]
        exact .set hsh.2
      clear J p2 n2 N2 hmm hsh
      rintro σ H3 ⟨B3, S3, J, p3, n3, N3, hmm, hsh, rfl⟩
      have hm := p3.s20
      refine ⟨_, rfl, _, rfl, _, rfl, _, _, _, _, rfl, rfl, SqL.of hsh.1, at0, _, rfl, _, _, _, _, rfl, rfl, SqL.of hsh.1, atI_nat (j := 1) rfl, _, rfl, _, _, _, _, rfl, rfl, SqL.of hsh.1, atI_nat (j := 2) rfl, _, _, rfl, rfl, .inl ⟨by omega, by omega⟩, _, _, rfl, rfl, ?_⟩
      refine ⟨τ2, st, sa, ns, tb, tr, mb, mr, B3, S3, 14, _, rfl, J, by decide, fun H4 J4 F4 => ?_⟩
      have en : (S3.wr 14 ((top : Int) - step * S3.A.n)).A.n = S3.A.n := Ab.wr_n _ _
      refine q τ2 H4 _ _ ⟨J4, hmm.st F4 (by simp), ?_, ?_⟩ (by rw [en]; omega) ((Bk.wr_N _ _).trans N3)
      · rw [en]; exact hsh.st F4 (by simp)
      · rw [en]; exact p3.w14 J.co.so
    refine ⟨_, rfl, _, _, rfl, rfl, _, rfl, ite3 (fun e2 => ?_) (fun e2 => ?_)⟩
    · refine ⟨_, rfl, _, _, _, _, rfl, rfl, SqL.of L.sh.1, atI_nat (j := 2) rfl, _, _, rfl, rfl, _, rfl, ite3 (fun e3 => ?_) (fun e3 => ?_)⟩
      · have n0 : 0 < S.A.n := by have := of_decide_eq_true e3; omega
        refine ⟨fun σ H' => K9 K a.C_Banks a.C_Ring τ H' st sa ns tb tr mb mr B S ∧ At τ H' mm (.lst [.ref mb, .ref mr]) (9, 0, 0) ∧ At τ H' sh (.lst [.int top, .int step, .int (S.A.n - 1)]) (10, 0, 0) ∧ σ = [some (.ref st), some (.ref tb), some (.ref tr), some (.ref mm), some (.int B.N), some (.ref sh), some (.int c), none], ?_, ?_⟩
        · refine ⟨_, rfl, _, _, _, _, rfl, rfl, SqL.of L.sh.1, atI_nat (j := 2) rfl, _, _, rfl, rfl, _, rfl, _, _, _, 2, rfl, rfl, L.sh.1, rfl, ?_⟩
          have F := (Stp.refl (τ := τ) (S := [10]) (H := H1)).put (o := .lst [.int top, .int step, .int (S.A.n - 1)]) (mem1 L.sh.2 rfl)
          exact ⟨L.j.st0 F (by simp) (by simp) (by simp) (by simp) (by simp) (by simp), L.mm.st F (by simp), .set L.sh.2, rfl⟩
        have p := L.p
        clear L
        rintro σ H2 ⟨J, hmm, hsh, rfl⟩
        refine ⟨_, rfl, _, rfl, _, rfl, _, rfl, _, _, _, _, rfl, rfl, SqL.of hmm.1, at0, _, rfl, τ, st, sa, ns, tb, tr, mb, mr, B, S, top, step, rfl, J, p, n0, by omega, fun τ' H' B' S' j' p' n' N' F' => ?_⟩
        refine q τ' H' B' S' ⟨j', hmm.st F' (by simp), ?_, p'⟩ (by omega) N'
        rw [show ((S'.A.n : Nat) : Int) = (S.A.n : Int) - 1 by omega]
        exact hsh.st F' (by simp)
      · exact q τ H1 B S L (Nat.le_succ _) rfl
    refine ⟨_, rfl, _, _, rfl, rfl, _, rfl, ite3 (fun e3 => ?_) (fun e3 => ?_)⟩
    · refine ⟨_, rfl, τ, st, sa, ns, 32, rfl, L.j.s, by decide, by decide, fun j H2 j0 j1 S2 F2 => ?_⟩
      have L := L.st4 F2 S2
      clear S2 F2
      obtain ⟨j, rfl⟩ : ∃ k : Nat, j = (k : Int) := ⟨j.toNat, by omega⟩
      refine ⟨_, rfl, rfl, _, rfl, ite3 (fun e4 => ?_) (fun e4 => ?_)⟩
      · refine ⟨_, rfl, rfl, _, rfl, ite3 (fun e5 => ?_) (fun e5 => ?_)⟩
        · have h14 : j ≠ 14 := by intro z; subst z; simp at e4
          have h30 : j ≠ 30 := by intro z; subst z; simp at e5
          refine ⟨_, rfl, _, rfl, _, rfl, τ, st, sa, ns, rfl, L.j.s, fun τ3 y H3 y0 y1 S3 F3 => ?_⟩
          have L := L.st4 F3 S3
          refine ⟨_, rfl, τ3, st, sa, ns, tb, tr, mb, mr, B, S, j, y, rfl, L.j, by omega, fun H4 J4 F4 => ?_⟩
          have en : (S.wr j y).A.n = S.A.n := Ab.wr_n _ _
          refine q τ3 H4 _ _ ⟨J4, L.mm.st F4 (by simp), ?_, ?_⟩ (by rw [en]; omega) (Bk.wr_N _ _)
          · rw [en]; exact L.sh.st F4 (by simp)
          · rw [en]; exact L.p.wr h14 h30 y
        · exact q τ _ B S L (Nat.le_succ _) rfl
      · exact q τ _ B S L (Nat.le_succ _) rfl
    · refine ⟨_, rfl, _, rfl, _, rfl, τ, st, sa, ns, tb, tr, mb, mr, mm, B, S, rfl, L.j, L.mm, fun H2 s2 => q τ H2 B S ⟨L.j.same s2, L.mm.same s2, L.sh.same s2, L.p⟩ (Nat.le_succ _) rfl⟩
end

def spLaw (K : PySem.W.Frag) : Sp := fun vs H Q _ => ∃ (a : Addr) (ns : List Int), vs = [.ref a] ∧ SqL K H a (ns.map V.int) ∧ ns.length ≤ 63 ∧ ∀ H', Q (.bl true) H'
def jk (j : Int) (n : Nat) : List Int := (List.range n).map fun k : Nat => j - 3 * (k : Int)
theorem jk_len {j : Int} {n : Nat} : (jk j n).length = n := by simp [jk]
theorem jk_succ {j : Int} {n : Nat} : (jk j (n + 1)).map V.int = (jk j n).map V.int ++ [V.int (j - 3 * (n : Int))] := by simp [jk, List.range_succ]
section
variable {P : Program} {w : World} {K : PySem.W.Frag} {mg : Str → Option Value} {base : Heap} {a : Ad}
theorem ok_law (T : Txt w K mg a) : FnOk P w K mg base CX0 7 a.f_law a.d_law ["script"] (spLaw K) := by
  have G_law_pick : FnOk P w K mg base CX0 1 _ _ _ _ := ok_pickG T
  have G_trap_code : FnOk P w K mg base CX0 4 _ _ _ _ := ok_trap_code T
  have G_law_words : FnOk P w K mg base CX0 4 _ _ _ _ := ok_law_words T
  have G_law_spill : FnOk P w K mg base CX0 1 _ _ _ _ := ok_law_spill T
  have G_law_fill : FnOk P w K mg base CX0 1 _ _ _ _ := ok_law_fill T
  have G_law_up : FnOk P w K mg base CX0 5 _ _ _ _ := ok_law_up T
  have G_law_both : FnOk P w K mg base CX0 3 _ _ _ _ := ok_law_both T
  have G_law_same : FnOk P w K mg base CX0 3 _ _ _ _ := ok_law_same T
  have G_law_deed : FnOk P w K mg base CX0 6 _ _ _ _ := ok_law_deed T
  have G_Banks___init__ : FnOk P w K mg base CX0 1 _ _ _ _ := ok_Banks___init__ T
  have G_Ring___init__ : FnOk P w K mg base CX0 2 _ _ _ _ := ok_Ring_init T
  refine T.F_law.ok sc_law (fun vs H Q E h => ?_) (fun cdv A outer s H vs Q E hr h => ?_)
  · obtain ⟨_, _, rfl, _⟩ := h; rfl
  · obtain ⟨sa, ns, rfl, hS, hlen, q⟩ := h
    refine ⟨_, (C8.pss_cut (ps_set (i := 1) sc_law.nd rfl (Or.inl rfl) (pe_lst (pa_cons (pv 0) (pa_cons pe_int (pa_cons pe_int (pa_cons pe_int pa_nil))))))
      (C8.pss_cut (ps_set (i := 2) sc_law.nd rfl (Or.inl rfl) (pe_op op_add pe_int (pe_call G_law_pick (hr.mono (by decide)) rfl T.g__law_pick T.k__law_pick T.bd__law_pick .nil pass0 (pa_cons (pv 1) (pa_cons pe_int pa_nil)))))
      (C8.pss_cut (ps_if (pt_cmpR op_eq (pe_call G_law_pick (hr.mono (by decide)) rfl T.g__law_pick T.k__law_pick T.bd__law_pick .nil pass0 (pa_cons (pv 1) (pa_cons pe_int pa_nil))) pe_int (nomark _)) (pss_one (ps_set (i := 2) sc_law.nd rfl (Or.inl rfl) (pe_op op_add pe_int (pe_call G_law_pick (hr.mono (by decide)) rfl T.g__law_pick T.k__law_pick T.bd__law_pick .nil pass0 (pa_cons (pv 1) (pa_cons pe_int pa_nil)))))) pss_nil)
      (C8.pss_cut (ps_set (i := 3) sc_law.nd rfl (Or.inl rfl) (pe_call G_trap_code (hr.mono (by decide)) rfl T.g_trap_code T.k_trap_code T.bd_trap_code .nil pass0 (pa_cons (pv 2) pa_nil)))
      (C8.pss_cut (ps_if (PW.pt (pw_or (pt_not (pt_val (pe_callB call_isi (by rfl) T.b_isinstance (by decide +kernel) (pa_cons (pv 3) (pa_cons (pe_bltn (v := .ty "tuple") (by rfl) T.b_tuple (by decide +kernel) rfl) pa_nil))))) (pw_or1 (pt_cmpR op_ne (pe_callB call_len_seq (by rfl) T.b_len (by decide +kernel) (pa_cons (pv 3) pa_nil)) pe_int (nomark _))))) (pss_one (ps_ret pe_bl)) pss_nil)
      (C8.pss_cut (ps_if (PW.pt (pw_or (pt_not (pt_val (pe_call G_law_words (hr.mono (by decide)) rfl T.g__law_words T.k__law_words T.bd__law_words .nil pass0 (pa_cons (pe_ix ix_tup (pv 3) pe_int (fun _ _ => rfl)) (pa_cons (pe_call G_law_spill (hr.mono (by decide)) rfl T.g__law_spill T.k__law_spill T.bd__law_spill .nil pass0 (pa_cons (pv 2) pa_nil)) pa_nil))))) (pw_or1 (pt_not (pt_val (pe_call G_law_words (hr.mono (by decide)) rfl T.g__law_words T.k__law_words T.bd__law_words .nil pass0 (pa_cons (pe_ix ix_tup (pv 3) pe_int (fun _ _ => rfl)) (pa_cons (pe_call G_law_fill (hr.mono (by decide)) rfl T.g__law_fill T.k__law_fill T.bd__law_fill .nil pass0 (pa_cons (pv 2) pa_nil)) pa_nil)))))))) (pss_one (ps_ret pe_bl)) pss_nil)
      (C8.pss_cut (ps_set (i := 4) sc_law.nd rfl (Or.inl rfl) (pe_op op_add pe_int (pe_call G_law_pick (hr.mono (by decide)) rfl T.g__law_pick T.k__law_pick T.bd__law_pick .nil pass0 (pa_cons (pv 1) (pa_cons pe_int pa_nil)))))
      (C8.pss_cut (ps_set (i := 5) sc_law.nd rfl (Or.inl rfl) (pe_op op_add (pe_op op_mul (pv 4) pe_int) (pe_call G_law_pick (hr.mono (by decide)) rfl T.g__law_pick T.k__law_pick T.bd__law_pick .nil pass0 (pa_cons (pv 1) (pa_cons pe_int pa_nil)))))
      (C8.pss_cut (ps_set (i := 6) sc_law.nd rfl (Or.inr rfl) (pe_call G_law_pick (hr.mono (by decide)) rfl T.g__law_pick T.k__law_pick T.bd__law_pick .nil pass0 (pa_cons (pv 1) (pa_cons pe_int pa_nil))))
      (C8.pss_cut (ps_set (i := 7) sc_law.nd rfl (Or.inl rfl) (pe_lst (pa_cons (pe_lc (own := [("k", 8)]) (g := gName 8) rfl sc_law.nd (pi_range1 rfl T.b_range (pa_cons (pv 5) pa_nil)) (blkOk_by (own := [("k", 8)]) (N := ["script", "state", "windows", "code", "step", "size", "junk", "memories", "k", "banks", "ring", "shape", "turn"]) (sc := defScope s_law) (by decide +kernel)) (fun _ _ _ _ _ => pg_name (i := 8) sc_law.nd rfl (Or.inl rfl)) (fun _ _ _ _ _ => pts_nil) (fun _ _ _ _ _ => (pe_op op_sub (pv 6) (pe_op op_mul pe_int (pv 8))))) (pa_cons (pe_lc (own := [("k", 8)]) (g := gName 8) rfl sc_law.nd (pi_range1 rfl T.b_range (pa_cons (pv 5) pa_nil)) (blkOk_by (own := [("k", 8)]) (N := ["script", "state", "windows", "code", "step", "size", "junk", "memories", "k", "banks", "ring", "shape", "turn"]) (sc := defScope s_law) (by decide +kernel)) (fun _ _ _ _ _ => pg_name (i := 8) sc_law.nd rfl (Or.inl rfl)) (fun _ _ _ _ _ => pts_nil) (fun _ _ _ _ _ => (pe_op op_sub (pv 6) (pe_op op_mul pe_int (pv 8))))) pa_nil))))
      (C8.pss_cut (ps_set (i := 9) sc_law.nd rfl (Or.inl rfl) (pe_make T.mk_Banks G_Banks___init__ (hr.mono (by decide)) rfl T.g_Banks T.bd_Banks___init__ .nil pass0 (pa_cons (pv 2) pa_nil)))
      (C8.pss_cut (ps_set (i := 10) sc_law.nd rfl (Or.inl rfl) (pe_make T.mk_Ring G_Ring___init__ (hr.mono (by decide)) rfl T.g_Ring T.bd_Ring___init__ .nil pass0 (pa_cons (pe_ix ix_list (pv 7) pe_int (fun _ _ => rfl)) (pa_cons (pv 2) pa_nil))))
      (C8.pss_cut (ps_set (i := 11) sc_law.nd rfl (Or.inl rfl) (pe_lst (pa_cons (pe_op op_sub (pv 5) pe_int) (pa_cons (pv 4) (pa_cons pe_int pa_nil)))))
      (C8.pss_cut (ps_expr (pe_call G_law_both (hr.mono (by decide)) rfl T.g__law_both T.k__law_both T.bd__law_both .nil pass0 (pa_cons (pv 9) (pa_cons (pv 10) (pa_cons (pe_op op_sub (pv 5) pe_int) (pa_cons pe_int pa_nil))))))
      (C8.pss_cut (ps_for PassesOwn.never rfl (pi_range1 rfl T.b_range (pa_cons (pe_op op_add pe_int (pe_call G_law_pick (hr.mono (by decide)) rfl T.g__law_pick T.k__law_pick T.bd__law_pick .nil pass0 (pa_cons (pv 1) (pa_cons pe_int pa_nil)))) pa_nil)) (pg_name (i := 12) sc_law.nd rfl (Or.inl rfl)) (pss_one (ps_if (pt_not (pt_val (pe_call G_law_deed (hr.mono (by decide)) rfl T.g__law_deed T.k__law_deed T.bd__law_deed .nil pass0 (pa_cons (pv 1) (pa_cons (pv 9) (pa_cons (pv 10) (pa_cons (pv 7) (pa_cons (pv 2) (pa_cons (pv 11) pa_nil))))))))) (pss_one (ps_ret pe_bl)) pss_nil)))
      (C8.pss_cut (ps_for PassesOwn.never rfl (pi_range1 rfl T.b_range (pa_cons pe_int pa_nil)) (pg_name (i := 12) sc_law.nd rfl (Or.inl rfl)) (C8.pss_cut (ps_if (pt_not (pt_val (pe_call G_law_same (hr.mono (by decide)) rfl T.g__law_same T.k__law_same T.bd__law_same .nil pass0 (pa_cons (pv 9) (pa_cons (pv 10) (pa_cons (pv 7) pa_nil)))))) (pss_one (ps_ret pe_bl)) pss_nil)
      (pss_one (ps_if (pt_cmpR op_gt (pe_ix ix_list (pv 11) pe_int (fun _ _ => rfl)) pe_int (nomark _)) (C8.pss_cut (ps_asg (pe_op op_sub (pe_ix ix_list (pv 11) pe_int (fun _ _ => rfl)) pe_int) (pg_sub (pv 11) pe_int set_list))
      (pss_one (ps_if (pt_not (pt_val (pe_call G_law_up (hr.mono (by decide)) rfl T.g__law_up T.k__law_up T.bd__law_up .nil pass0 (pa_cons (pv 1) (pa_cons (pv 9) (pa_cons (pv 10) (pa_cons (pe_ix ix_list (pv 7) pe_int (fun _ _ => rfl)) (pa_cons (pv 2) pa_nil)))))))) (pss_one (ps_ret pe_bl)) pss_nil))) pss_nil))))
      (pss_one (ps_ret (pe_and (pe_cmpR op_eq (pe_fld (pv 9) rfl) pe_int (nomark _)) (pe_one (pe_cmpR op_eq (pe_fld (pv 9) rfl) (pe_fld (pv 9) rfl) (nomark _)))))))))))))))))))))), ?_⟩
    refine ⟨fun σ H' => ∃ τ st, StG K τ H' st sa ns ∧ σ = [some (.ref sa), some (.ref st), none, none, none, none, none, none, none, none, none, none, none], ?_, ?_⟩
    · refine ⟨_, rfl, (by show 4 ≤ sizeLine; decide), fun st nst => ?_⟩
      exact ⟨_, st, StG.first hS nst, rfl⟩
    clear hS hlen
    rintro σ H0 ⟨τ0, st, S0, rfl⟩
    refine ⟨fun σ H' => StG K τ0 H' st sa ns ∧ ∃ n : Nat, 3 ≤ n ∧ n ≤ 32 ∧ σ = [some (.ref sa), some (.ref st), some (.int n), none, none, none, none, none, none, none, none, none, none], ?_, ?_⟩
    · refine ⟨_, rfl, τ0, st, sa, ns, 5, rfl, S0, by decide, by decide, fun u H1 u0 u1 S1 F1 => ⟨_, _, rfl, rfl, S1, (3 + u).toNat, by omega, by omega, ?_⟩⟩
      rw [show (((3 + u).toNat : Nat) : Int) = 3 + u by omega]
      rfl
    clear S0
    rintro σ H0 ⟨S0, n, n3, n32, rfl⟩
    refine ⟨fun σ H' => StG K τ0 H' st sa ns ∧ ∃ n : Nat, 3 ≤ n ∧ n ≤ 32 ∧ σ = [some (.ref sa), some (.ref st), some (.int n), none, none, none, none, none, none, none, none, none, none], ?_, ?_⟩
    · refine ⟨_, rfl, τ0, st, sa, ns, 6, rfl, S0, by decide, by decide, fun u H1 u0 u1 S1 F1 => ⟨rfl, _, rfl, ite3 (fun e => ?_) (fun e => ⟨S1, n, n3, n32, rfl⟩)⟩⟩
      refine ⟨_, rfl, τ0, st, sa, ns, 30, rfl, S1, by decide, by decide, fun u H1 u0 u1 S1 F1 => ⟨_, _, rfl, rfl, S1, (3 + u).toNat, by omega, by omega, ?_⟩⟩
      rw [show (((3 + u).toNat : Nat) : Int) = 3 + u by omega]
      rfl
    clear S0 n3 n32
    rintro σ H0 ⟨S0, n, n3, n32, rfl⟩
    refine ⟨fun σ H' => StG K τ0 H' st sa ns ∧ ∃ p c0 c1, SqT K H' p [.ref c0, .ref c1] ∧ SqT K H' c0 (((spillI n).map encI).map V.int) ∧ SqT K H' c1 (((fillI n).map encI).map V.int) ∧ σ = [some (.ref sa), some (.ref st), some (.int n), some (.ref p), none, none, none, none, none, none, none, none, none], ?_, ?_⟩
    · exact ⟨_, rfl, n, n32, rfl, fun p c0 c1 H1 s1 h1 h2 h3 => ⟨S0.step (Stp.same (S := []) s1) (by simp) (by simp), p, c0, c1, h1, h2, h3, rfl⟩⟩
    clear S0
    rintro σ H0 ⟨S0, p, c0, c1, h1, h2, h3, rfl⟩
    refine ⟨fun σ H' => H0 = H' ∧ σ = [some (.ref sa), some (.ref st), some (.int n), some (.ref p), none, none, none, none, none, none, none, none, none], ?_, ?_⟩
    · refine ⟨_, rfl, _, _, _, _, _, rfl, .ty _, tyx_tup h1, kit_ty (by decide +kernel : kitB "tuple" "tuple" = some true), _, rfl, iteF ?_⟩
      refine ⟨_, rfl, _, _, rfl, .inr h1, rfl, _, rfl, ?_⟩
      exact iteF ⟨rfl, rfl⟩
    rintro σ H1 ⟨rfl, rfl⟩
    refine ⟨fun σ H' => StG K τ0 H' st sa ns ∧ σ = [some (.ref sa), some (.ref st), some (.int n), some (.ref p), none, none, none, none, none, none, none, none, none], ?_, ?_⟩
    · refine ⟨_, rfl, _, _, _, _, rfl, rfl, h1, at0, _, rfl, n, rfl, fun q1 w1 H1 m1 s1 k1 r1 => ⟨c0, q1, w1, spillI n, rfl, seqT s1 h2, k1, r1, all_ok (spill_ok ⟨n, by omega⟩), by show 24 ≤ 100; decide, fun H2 s2 => ⟨_, rfl, iteF ?_⟩⟩⟩
      have sa := s1.trans s2
      refine ⟨_, rfl, _, _, _, _, rfl, rfl, seqT sa h1, atI_nat (j := 1) rfl, _, rfl, n, rfl, fun q3 w3 H3 m3 s3 k3 r3 => ⟨c1, q3, w3, fillI n, rfl, seqT (sa.trans s3) h3, k3, r3, all_ok (fill_ok ⟨n, by omega⟩), by show 26 ≤ 100; decide, fun H4 s4 => ⟨_, rfl, iteF ⟨S0.step (Stp.same (S := []) ((sa.trans s3).trans s4)) (by simp) (by simp), rfl⟩⟩⟩⟩
    clear S0 h1 h2 h3
    rintro σ H1 ⟨S1, rfl⟩
    refine ⟨fun σ H' => StG K τ0 H' st sa ns ∧ ∃ step : Nat, 16 ≤ step ∧ step ≤ 20 ∧ σ = [some (.ref sa), some (.ref st), some (.int n), some (.ref p), some (.int step), none, none, none, none, none, none, none, none], ?_, ?_⟩
    · refine ⟨_, rfl, τ0, st, sa, ns, 5, rfl, S1, by decide, by decide, fun u H2 u0 u1 S2 F2 => ⟨_, _, rfl, rfl, S2, (16 + u).toNat, by omega, by omega, ?_⟩⟩
      rw [show (((16 + u).toNat : Nat) : Int) = 16 + u by omega]
      rfl
    clear S1
    rintro σ H1 ⟨S1, step, p16, p20, rfl⟩
    refine ⟨fun σ H' => StG K τ0 H' st sa ns ∧ ∃ top : Nat, step * 41 ≤ top ∧ top ≤ 860 ∧ σ = [some (.ref sa), some (.ref st), some (.int n), some (.ref p), some (.int step), some (.int ((top : Int) + 16)), none, none, none, none, none, none, none], ?_, ?_⟩
    · refine ⟨_, rfl, _, _, rfl, rfl, .inl ⟨by omega, by omega⟩, _, rfl, τ0, st, sa, ns, 9, rfl, S1, by decide, by decide, fun u H2 u0 u1 S2 F2 => ⟨_, _, rfl, rfl, S2, ((step : Int) * 42 + u - 16).toNat, by omega, by omega, ?_⟩⟩
      rw [show ((((step : Int) * 42 + u - 16).toNat : Nat) : Int) + 16 = (step : Int) * 42 + u by omega]
      rfl
    clear S1
    rintro σ H1 ⟨S1, top, t1, t2, rfl⟩
    refine ⟨fun σ H' => StG K τ0 H' st sa ns ∧ ∃ j, σ = [some (.ref sa), some (.ref st), some (.int n), some (.ref p), some (.int step), some (.int ((top : Int) + 16)), some (.int j), none, none, none, none, none, none], ?_, ?_⟩
    · exact ⟨_, rfl, τ0, st, sa, ns, _, rfl, S1, by decide, by decide, fun u H3 u0 u1 S3 F3 => ⟨S3, u, rfl⟩⟩
    clear S1
    rintro σ H1 ⟨S1, j, rfl⟩
    refine ⟨fun σ H' => ∃ τ mb mr mm x, StG K τ H' st sa ns ∧ At τ H' mb (.lst ((jk j (top + 16)).map V.int)) (5, 0, 0) ∧ At τ H' mr (.lst ((jk j (top + 16)).map V.int)) (8, 0, 0) ∧ At τ H' mm (.lst [.ref mb, .ref mr]) (9, 0, 0) ∧ σ = [some (.ref sa), some (.ref st), some (.int n), some (.ref p), some (.int step), some (.int ((top : Int) + 16)), some (.int j), some (.ref mm), x, none, none, none, none], ?_, ?_⟩
    · have en : ((top : Int) + 16).toNat = top + 16 := by omega
      refine ⟨_, rfl, _, rfl, by omega, by omega, fun D nD => ?_⟩
      refine lc_range (lo := 0) (n := ((top : Int) + 16).toNat) (fun i H' => StG K (tgN τ0 D (5, 0, 0)) H' st sa ns ∧ At (tgN τ0 D (5, 0, 0)) H' D (.lst ((jk j i).map V.int)) (5, 0, 0)) ⟨S1.step ((Stp.refl (τ := τ0) (S := [])).new nD (x := (5, 0, 0))) (by simp) (by simp), At.mk⟩ ?_ ?_
      · rintro i H2 hi ⟨S2, D2⟩
        refine ⟨rfl, _, rfl, _, rfl, _, _, rfl, rfl, .inl ⟨by decide, by decide⟩, _, _, rfl, rfl, _, D2.1, sz (by rw [List.length_map, jk_len]; omega), S2.step ((Stp.refl (S := [5])).put (mem1 D2.2 rfl)) (by simp) (by simp), ?_⟩
        rw [jk_succ, Int.zero_add]
        exact .set D2.2
      rintro H2 ⟨S2, D2⟩
      rw [en] at D2
      clear S1 nD
      generalize tgN τ0 D (5, 0, 0) = τ2 at S2 D2
      refine ⟨_, rfl, _, rfl, by omega, by omega, fun D' nD => ?_⟩
      refine lc_range (lo := 0) (n := ((top : Int) + 16).toNat) (fun i H' => StG K (tgN τ2 D' (8, 0, 0)) H' st sa ns ∧ At (tgN τ2 D' (8, 0, 0)) H' D (.lst ((jk j (top + 16)).map V.int)) (5, 0, 0) ∧ At (tgN τ2 D' (8, 0, 0)) H' D' (.lst ((jk j i).map V.int)) (8, 0, 0)) ⟨S2.step ((Stp.refl (τ := τ2) (S := [])).new nD (x := (8, 0, 0))) (by simp) (by simp), D2.new nD, At.mk⟩ ?_ ?_
      · rintro i H3 hi ⟨S3, D3, D4⟩
        refine ⟨rfl, _, rfl, _, rfl, _, _, rfl, rfl, .inl ⟨by decide, by decide⟩, _, _, rfl, rfl, _, D4.1, sz (by rw [List.length_map, jk_len]; omega), S3.step ((Stp.refl (S := [8])).put (mem1 D4.2 rfl)) (by simp) (by simp), D3.put D4.2 (by simp), ?_⟩
        rw [jk_succ, Int.zero_add]
        exact .set D4.2
      rintro H3 ⟨S3, D3, D4⟩
      rw [en] at D4
      refine ⟨(by show 2 ≤ sizeLine; decide), fun mm nm => ⟨_, D, D', mm, _, S3.step ((Stp.refl (S := [])).new nm (x := (9, 0, 0))) (by simp) (by simp), D3.new nm, D4.new nm, At.mk, rfl⟩⟩
    clear S1
    rintro σ H1 ⟨τ1, mb, mr, mm, x, S1, hmb, hmr, hmm, rfl⟩
    refine ⟨fun σ H' => ∃ τ tb, StG K τ H' st sa ns ∧ BW a.C_Banks τ 2 H' tb (.zero n) ∧ At τ H' mb (.lst ((jk j (top + 16)).map V.int)) (5, 0, 0) ∧ At τ H' mr (.lst ((jk j (top + 16)).map V.int)) (8, 0, 0) ∧ At τ H' mm (.lst [.ref mb, .ref mr]) (9, 0, 0) ∧ σ = [some (.ref sa), some (.ref st), some (.int n), some (.ref p), some (.int step), some (.int ((top : Int) + 16)), some (.int j), some (.ref mm), x, some (.ref tb), none, none, none], ?_, ?_⟩
    · refine ⟨_, rfl, fun x0 dx0 nx0 ndx0 nex0 => ?_⟩
      have Fa := ((Stp.refl (τ := τ1) (S := []) (H := H1)).new ndx0 (o := .own x0) (x := (7, 0, 0))).new (p := x0) (o := .ins a.C_Banks dx0 []) (x := (2, 0, 0)) (by rw [upd_ne nex0.symm]; exact nx0)
      have aa : At (tgN (tgN τ1 dx0 (7, 0, 0)) x0 (2, 0, 0)) (upd (upd H1 dx0 (.own x0)) x0 (.ins a.C_Banks dx0 [])) x0 _ _ := At.mk
      refine ⟨_, 2, x0, dx0, n, rfl, n3, n32, aa, fun τ4 H4 W4 F4 => ⟨rfl, τ4, x0, (S1.step Fa (by simp) (by simp)).step F4 (by simp) (by simp), W4, (hmb.st Fa (by simp)).st F4 (by simp), (hmr.st Fa (by simp)).st F4 (by simp), (hmm.st Fa (by simp)).st F4 (by simp), rfl⟩⟩
    clear S1 hmb hmr hmm
    rintro σ H1 ⟨τ1, tb, S1, W1, hmb, hmr, hmm, rfl⟩
    refine ⟨fun σ H' => ∃ τ tr, K9 K a.C_Banks a.C_Ring τ H' st sa ns tb tr mb mr (.zero n) ⟨.zero, 0, jk j (top + 16), 0, 0, n⟩ ∧ At τ H' mm (.lst [.ref mb, .ref mr]) (9, 0, 0) ∧ σ = [some (.ref sa), some (.ref st), some (.int n), some (.ref p), some (.int step), some (.int ((top : Int) + 16)), some (.int j), some (.ref mm), x, some (.ref tb), some (.ref tr), none, none], ?_, ?_⟩
    · refine ⟨_, rfl, _, _, _, _, rfl, rfl, SqL.of hmm.1, atI_nat (j := 1) rfl, _, rfl, fun x0 dx0 nx0 ndx0 nex0 => ?_⟩
      have Fa := ((Stp.refl (τ := τ1) (S := []) (H := H1)).new ndx0 (o := .own x0) (x := (7, 0, 0))).new (p := x0) (o := .ins a.C_Ring dx0 []) (x := (1, 0, 0)) (by rw [upd_ne nex0.symm]; exact nx0)
      have aa : At (tgN (tgN τ1 dx0 (7, 0, 0)) x0 (1, 0, 0)) (upd (upd H1 dx0 (.own x0)) x0 (.ins a.C_Ring dx0 [])) x0 _ _ := At.mk
      refine ⟨_, 1, x0, mr, dx0, jk j (top + 16), n, rfl, by decide, aa, hmr.st Fa (by simp), fun τ4 H4 R4 F4 => ⟨rfl, τ4, x0, ⟨(S1.step Fa (by simp) (by simp)).step F4 (by simp) (by simp), (W1.st Fa (by simp)).st F4 (by simp), R4, (hmb.st Fa (by simp)).st F4 (by simp), Cor.zero n3 n32 (by rw [jk_len]; omega)⟩, (hmm.st Fa (by simp)).st F4 (by simp), rfl⟩⟩
    clear S1 W1 hmb hmr hmm
    rintro σ H1 ⟨τ1, tr, J, hmm, rfl⟩
    have hp : Pt ⟨.zero, 0, jk j (top + 16), 0, 0, n⟩ top step 0 := ⟨p16, p20, by show top + 16 ≤ (jk j (top + 16)).length; rw [jk_len]; exact Nat.le_refl _, t1, rfl, fun k hk => absurd hk (Nat.not_lt_zero k), fun k k1 k2 => absurd k2 (Nat.not_lt_zero k)⟩
    have en0 : (RS.mk .zero 0 (jk j (top + 16)) 0 0 n).A.n = 0 := rfl
    have eN : (Bk.zero n).N = n := rfl
    generalize RS.mk .zero 0 (jk j (top + 16)) 0 0 n = S at J hp en0
    generalize Bk.zero n = B at J eN
    refine ⟨fun σ H' => ∃ τ sh, K9 K a.C_Banks a.C_Ring τ H' st sa ns tb tr mb mr B S ∧ At τ H' mm (.lst [.ref mb, .ref mr]) (9, 0, 0) ∧ At τ H' sh (.lst [.int top, .int step, .int 0]) (10, 0, 0) ∧ σ = [some (.ref sa), some (.ref st), some (.int n), some (.ref p), some (.int step), some (.int ((top : Int) + 16)), some (.int j), some (.ref mm), x, some (.ref tb), some (.ref tr), some (.ref sh), none], ?_, ?_⟩
    · refine ⟨_, rfl, _, _, rfl, rfl, _, rfl, (by show 3 ≤ sizeLine; decide), fun sh nh => ?_⟩
      dsimp only
      rw [show (top : Int) + 16 - 16 = (top : Int) by omega]
      have F := (Stp.refl (τ := τ1) (S := []) (H := H1)).new nh (o := .lst [V.int top, V.int step, V.int 0]) (x := (10, 0, 0))
      exact ⟨_, sh, J.st0 F (by simp) (by simp) (by simp) (by simp) (by simp) (by simp), hmm.st F (by simp), At.mk, rfl⟩
    clear J hmm
    rintro σ H1 ⟨τ1, sh, J, hmm, hsh, rfl⟩
    refine ⟨fun σ H' => ∃ B S, L9 K a.C_Banks a.C_Ring τ1 H' st sa ns tb tr mb mr mm sh top step B S ∧ B.N = n ∧ S.A.n = 0 ∧ σ = [some (.ref sa), some (.ref st), some (.int n), some (.ref p), some (.int step), some (.int ((top : Int) + 16)), some (.int j), some (.ref mm), x, some (.ref tb), some (.ref tr), some (.ref sh), none], ?_, ?_⟩
    · refine ⟨_, rfl, _, rfl, _, rfl, _, _, rfl, rfl, ?_⟩
      dsimp only
      rw [show (top : Int) + 16 - 16 = (top : Int) - (step : Int) * ((0 : Nat) : Int) by omega]
      refine ⟨τ1, st, sa, ns, tb, tr, mb, mr, B, S, 14, _, rfl, J, by decide, fun H2 J2 F2 => ?_⟩
      have e : (S.wr 14 ((top : Int) - (step : Int) * ((0 : Nat) : Int))).A.n = 0 := (Ab.wr_n _ _).trans en0
      refine ⟨_, _, ⟨J2, hmm.st F2 (by simp), ?_, ?_⟩, (Bk.wr_N _ _).trans eN, e, rfl⟩
      · rw [e]; exact hsh.st F2 (by simp)
      · have := Pt.w14 (S := S) (by rw [en0]; exact hp) J.co.so
        rw [en0] at this
        rw [e]
        exact this
    clear J hmm hsh hp en0 eN
    rintro σ H1 ⟨B, S, L, eN, en, rfl⟩
    refine ⟨fun σ H' => ∃ τ B S y, L9 K a.C_Banks a.C_Ring τ H' st sa ns tb tr mb mr mm sh top step B S ∧ B.N = n ∧ S.A.n ≤ 41 ∧ σ = [some (.ref sa), some (.ref st), some (.int n), some (.ref p), some (.int step), some (.int ((top : Int) + 16)), some (.int j), some (.ref mm), x, some (.ref tb), some (.ref tr), some (.ref sh), y], ?_, ?_⟩
    · refine ⟨_, rfl, τ1, st, sa, ns, 33, rfl, L.j.s, by decide, by decide, fun u H2 u0 u1 S2 F2 => ⟨_, _, rfl, rfl, _, rfl, by omega, by omega, ?_⟩⟩
      refine for_range (lo := 0) (n := (8 + u).toNat) (fun i σ H' => ∃ τ B S y, L9 K a.C_Banks a.C_Ring τ H' st sa ns tb tr mb mr mm sh top step B S ∧ B.N = n ∧ S.A.n ≤ i ∧ i ≤ 40 ∧ σ = [some (.ref sa), some (.ref st), some (.int n), some (.ref p), some (.int step), some (.int ((top : Int) + 16)), some (.int j), some (.ref mm), x, some (.ref tb), some (.ref tr), some (.ref sh), y]) ⟨τ1, B, S, none, L.st4 F2 S2, eN, by omega, by omega, rfl⟩ ?_ ?_
      · clear L eN en
        rintro i σ H3 hi ⟨τ, B, S, y, L, rfl, hn, hi2, rfl⟩
        refine ⟨_, rfl, _, rfl, _, rfl, _, rfl, _, rfl, _, rfl, τ, st, sa, ns, tb, tr, mb, mr, mm, sh, top, step, B, S, rfl, L, by omega, fun τ' H' B' S' L' n' N' => ⟨_, rfl, iteF ⟨τ', B', S', _, L', N', by omega, by omega, rfl⟩⟩⟩
      · rintro σ H3 ⟨τ, B, S, y, L, e1, hn, hi2, rfl⟩
        exact ⟨τ, B, S, y, L, e1, by omega, rfl⟩
    clear L eN en
    rintro σ H1 ⟨τ1, B, S, y, L, eN, hn, rfl⟩
    refine ⟨fun σ H' => ∃ τ B S y, L9 K a.C_Banks a.C_Ring τ H' st sa ns tb tr mb mr mm sh top step B S ∧ B.N = n ∧ S.A.n = 0 ∧ σ = [some (.ref sa), some (.ref st), some (.int n), some (.ref p), some (.int step), some (.int ((top : Int) + 16)), some (.int j), some (.ref mm), x, some (.ref tb), some (.ref tr), some (.ref sh), y], ?_, ?_⟩
    · refine ⟨_, rfl, by decide, by decide, ?_⟩
      refine for_range (lo := 0) (n := (42 : Int).toNat) (fun i σ H' => ∃ τ B S y, L9 K a.C_Banks a.C_Ring τ H' st sa ns tb tr mb mr mm sh top step B S ∧ B.N = n ∧ S.A.n ≤ 42 - i ∧ S.A.n ≤ 41 ∧ σ = [some (.ref sa), some (.ref st), some (.int n), some (.ref p), some (.int step), some (.int ((top : Int) + 16)), some (.int j), some (.ref mm), x, some (.ref tb), some (.ref tr), some (.ref sh), y]) ⟨τ1, B, S, y, L, eN, by omega, hn, rfl⟩ ?_ ?_
      · clear L eN hn
        rintro i σ H3 hi ⟨τ, B, S, y, L, rfl, hn, hn2, rfl⟩
        refine ⟨fun σ H' => L9 K a.C_Banks a.C_Ring τ H' st sa ns tb tr mb mr mm sh top step B S ∧ σ = [some (.ref sa), some (.ref st), some (.int B.N), some (.ref p), some (.int step), some (.int ((top : Int) + 16)), some (.int j), some (.ref mm), x, some (.ref tb), some (.ref tr), some (.ref sh), some (.int (0 + (i : Int)))], ?_, ?_⟩
        · exact ⟨_, rfl, _, rfl, _, rfl, τ, st, sa, ns, tb, tr, mb, mr, mm, B, S, rfl, L.j, L.mm, fun H2 s2 => ⟨_, rfl, iteF ⟨⟨L.j.same s2, L.mm.same s2, L.sh.same s2, L.p⟩, rfl⟩⟩⟩
        clear L
        rintro σ H4 ⟨L, rfl⟩
        refine ⟨_, rfl, _, _, _, _, rfl, rfl, SqL.of L.sh.1, atI_nat (j := 2) rfl, _, _, rfl, rfl, _, rfl, ite3 (fun e => ?_) (fun e => ?_)⟩
        · have n0 : 0 < S.A.n := by have := of_decide_eq_true e; omega
          refine ⟨fun σ H' => K9 K a.C_Banks a.C_Ring τ H' st sa ns tb tr mb mr B S ∧ At τ H' mm (.lst [.ref mb, .ref mr]) (9, 0, 0) ∧ At τ H' sh (.lst [.int top, .int step, .int (S.A.n - 1)]) (10, 0, 0) ∧ σ = [some (.ref sa), some (.ref st), some (.int B.N), some (.ref p), some (.int step), some (.int ((top : Int) + 16)), some (.int j), some (.ref mm), x, some (.ref tb), some (.ref tr), some (.ref sh), some (.int (0 + (i : Int)))], ?_, ?_⟩
          · refine ⟨_, rfl, _, _, _, _, rfl, rfl, SqL.of L.sh.1, atI_nat (j := 2) rfl, _, _, rfl, rfl, _, rfl, _, _, _, 2, rfl, rfl, L.sh.1, rfl, ?_⟩
            have F := (Stp.refl (τ := τ) (S := [10]) (H := H4)).put (o := .lst [.int top, .int step, .int (S.A.n - 1)]) (mem1 L.sh.2 rfl)
            exact ⟨L.j.st0 F (by simp) (by simp) (by simp) (by simp) (by simp) (by simp), L.mm.st F (by simp), .set L.sh.2, rfl⟩
          have pp := L.p
          clear L
          rintro σ H2 ⟨J, hmm, hsh, rfl⟩
          refine ⟨_, rfl, _, rfl, _, rfl, _, rfl, _, _, _, _, rfl, rfl, SqL.of hmm.1, at0, _, rfl, τ, st, sa, ns, tb, tr, mb, mr, B, S, top, step, rfl, J, pp, n0, hn2, fun τ' H' B' S' j' p' n' N' F' => ⟨_, rfl, iteF ⟨τ', B', S', _, ⟨j', hmm.st F' (by simp), ?_, p'⟩, N', by omega, by omega, rfl⟩⟩⟩
          rw [show ((S'.A.n : Nat) : Int) = (S.A.n : Int) - 1 by omega]
          exact hsh.st F' (by simp)
        · have n0 : ¬ 0 < S.A.n := by have := of_decide_eq_false e; omega
          exact ⟨τ, B, S, _, L, rfl, by omega, hn2, rfl⟩
      · rintro σ H3 ⟨τ, B, S, y, L, e1, hn, hn2, rfl⟩
        exact ⟨τ, B, S, y, L, e1, by simpa using hn, rfl⟩
    clear L eN hn
    rintro σ H1 ⟨τ1, B, S, y, L, eN, hn, rfl⟩
    obtain ⟨dx, gl, wn, wr, Wx⟩ := id L.j.W
    have co := L.j.co
    have hb := co.so.b
    have hc := L.p.c
    refine ⟨_, rfl, tb, a.C_Banks, dx, _, _, rfl, Wx.ob.1, T.cl_Banks, T.n_Banks_depth, bkf_depth _ _ _ _ _ _ _, rfl, ?_⟩
    rw [co.d, hn]
    refine ⟨_, rfl, iteT ?_⟩
    refine ⟨_, rfl, tb, a.C_Banks, dx, _, _, rfl, Wx.ob.1, T.cl_Banks, T.n_Banks_spills, bkf_spills _ _ _ _ _ _ _, _, rfl, tb, a.C_Banks, dx, _, _, rfl, Wx.ob.1, T.cl_Banks, T.n_Banks_fills, bkf_fills _ _ _ _ _ _ _, rfl, ?_⟩
    rw [decide_eq_true (show V.int B.s = V.int B.f by rw [co.s, co.f, show S.sp = S.fi by omega])]
    exact q _
end

theorem all_mk {l : PySem.W.OpenLaw} {w : World} {K : PySem.W.Frag} {h : Heap} {mg : Str → Option Value} {fa : Addr} (X : K.In h) (G : h.Ns mainGlobals mg) (hfa : mg "law" = some (.ref fa))
    {C_Ring : Addr} (aC_Ring : PySem.W.nsIn K mainGlobals "Ring" = some (some (.ref C_Ring)))
    (pg_Ring : PySem.W.plainGet K C_Ring Str.empty = true) (hd_Ring : PySem.W.hasDictIn K C_Ring = true) (po_Ring : PySem.W.plainOver K C_Ring = true) (sa_Ring : PySem.W.findIn K (.ref C_Ring) "__setattr__" = some (some (.builtin "object.__setattr__"))) (mk_Ring : PySem.W.makesIn K C_Ring = true) (kC_Ring : PySem.W.keepIn K (.ref C_Ring) = true)
    (n_Ring_depth : PySem.W.findIn K (.ref C_Ring) "depth" = some none)
    (n_Ring_spills : PySem.W.findIn K (.ref C_Ring) "spills" = some none)
    (n_Ring_fills : PySem.W.findIn K (.ref C_Ring) "fills" = some none)
    (n_Ring_resident : PySem.W.findIn K (.ref C_Ring) "resident" = some none)
    (n_Ring__memory : PySem.W.findIn K (.ref C_Ring) "_memory" = some none)
    (n_Ring__most : PySem.W.findIn K (.ref C_Ring) "_most" = some none)
    (n_Ring__view : PySem.W.findIn K (.ref C_Ring) "_view" = some none)
    (n_Ring__above : PySem.W.findIn K (.ref C_Ring) "_above" = some none)
    {C_Banks : Addr} (aC_Banks : PySem.W.nsIn K mainGlobals "Banks" = some (some (.ref C_Banks)))
    (pg_Banks : PySem.W.plainGet K C_Banks Str.empty = true) (hd_Banks : PySem.W.hasDictIn K C_Banks = true) (po_Banks : PySem.W.plainOver K C_Banks = true) (sa_Banks : PySem.W.findIn K (.ref C_Banks) "__setattr__" = some (some (.builtin "object.__setattr__"))) (mk_Banks : PySem.W.makesIn K C_Banks = true) (kC_Banks : PySem.W.keepIn K (.ref C_Banks) = true)
    (n_Banks_depth : PySem.W.findIn K (.ref C_Banks) "depth" = some none)
    (n_Banks_spills : PySem.W.findIn K (.ref C_Banks) "spills" = some none)
    (n_Banks_fills : PySem.W.findIn K (.ref C_Banks) "fills" = some none)
    (n_Banks_current : PySem.W.findIn K (.ref C_Banks) "current" = some none)
    (n_Banks_barred : PySem.W.findIn K (.ref C_Banks) "barred" = some none)
    (n_Banks__globals : PySem.W.findIn K (.ref C_Banks) "_globals" = some none)
    (n_Banks__windows : PySem.W.findIn K (.ref C_Banks) "_windows" = some none)
    {C_Fault : Addr} (aC_Fault : PySem.W.nsIn K mainGlobals "Fault" = some (some (.ref C_Fault)))
    (x_Fault : PySem.W.excIn K C_Fault [.type "ValueError", .type "Exception", .type "BaseException", .type "object"] "ValueError.__new__" = true) (kC_Fault : PySem.W.keepIn K (.ref C_Fault) = true) (s1_Fault : PySem.W.subIn K (.ref C_Fault) (.type "BaseException") = some true) (ty_Fault : PySem.W.typeIn K (.ref C_Fault) = some (.type "type")) (ic_Fault : PySem.W.isClsIn K C_Fault = true)
    {C_AdaError : Addr} (aC_AdaError : PySem.W.nsIn K mainGlobals "AdaError" = some (some (.ref C_AdaError)))
    (x_AdaError : PySem.W.excIn K C_AdaError [.type "ValueError", .type "Exception", .type "BaseException", .type "object"] "ValueError.__new__" = true) (kC_AdaError : PySem.W.keepIn K (.ref C_AdaError) = true) (s1_AdaError : PySem.W.subIn K (.ref C_AdaError) (.type "BaseException") = some true) (ty_AdaError : PySem.W.typeIn K (.ref C_AdaError) = some (.type "type")) (ic_AdaError : PySem.W.isClsIn K C_AdaError = true)
    {C_ImageError : Addr} (aC_ImageError : PySem.W.nsIn K mainGlobals "ImageError" = some (some (.ref C_ImageError)))
    (x_ImageError : PySem.W.excIn K C_ImageError [.type "ValueError", .type "Exception", .type "BaseException", .type "object"] "ValueError.__new__" = true) (kC_ImageError : PySem.W.keepIn K (.ref C_ImageError) = true) (s1_ImageError : PySem.W.subIn K (.ref C_ImageError) (.type "BaseException") = some true) (ty_ImageError : PySem.W.typeIn K (.ref C_ImageError) = some (.type "type")) (ic_ImageError : PySem.W.isClsIn K C_ImageError = true)
    {f_encode : Addr} {oc_encode : Value} {od_encode an_encode : Option Addr} {sl_encode : Array (Option Value)} {kV_encode dc_encode pm_encode cd_encode ct_encode : Value}
    (a_encode : PySem.W.nsIn K mainGlobals "encode" = some (some (.ref f_encode)))
    (l_encode : K.lookup f_encode = some ⟨oc_encode, od_encode, .func (PySem.W.fnOf "encode" "encode" (defArgs s_encode) (defBody s_encode) (defScope s_encode) .none kV_encode dc_encode pm_encode an_encode cd_encode ct_encode), sl_encode⟩)
    (c_encode : PySem.W.codeIn K cd_encode "encode" = true)
    (k_encode : PySem.W.keepIn K (.ref f_encode) = true)
    {f_bits_of : Addr} {oc_bits_of : Value} {od_bits_of an_bits_of : Option Addr} {sl_bits_of : Array (Option Value)} {kV_bits_of dc_bits_of pm_bits_of cd_bits_of ct_bits_of : Value}
    (a_bits_of : PySem.W.nsIn K mainGlobals "_bits_of" = some (some (.ref f_bits_of)))
    (l_bits_of : K.lookup f_bits_of = some ⟨oc_bits_of, od_bits_of, .func (PySem.W.fnOf "_bits_of" "_bits_of" (defArgs s_bits_of) (defBody s_bits_of) (defScope s_bits_of) .none kV_bits_of dc_bits_of pm_bits_of an_bits_of cd_bits_of ct_bits_of), sl_bits_of⟩)
    (c_bits_of : PySem.W.codeIn K cd_bits_of "_bits_of" = true)
    (k_bits_of : PySem.W.keepIn K (.ref f_bits_of) = true)
    {f_trap_code : Addr} {oc_trap_code : Value} {od_trap_code an_trap_code : Option Addr} {sl_trap_code : Array (Option Value)} {kV_trap_code dc_trap_code pm_trap_code cd_trap_code ct_trap_code : Value}
    (a_trap_code : PySem.W.nsIn K mainGlobals "trap_code" = some (some (.ref f_trap_code)))
    (l_trap_code : K.lookup f_trap_code = some ⟨oc_trap_code, od_trap_code, .func (PySem.W.fnOf "trap_code" "trap_code" (defArgs s_trap_code) (defBody s_trap_code) (defScope s_trap_code) .none kV_trap_code dc_trap_code pm_trap_code an_trap_code cd_trap_code ct_trap_code), sl_trap_code⟩)
    (c_trap_code : PySem.W.codeIn K cd_trap_code "trap_code" = true)
    (k_trap_code : PySem.W.keepIn K (.ref f_trap_code) = true)
    {f_spill : Addr} {oc_spill : Value} {od_spill an_spill : Option Addr} {sl_spill : Array (Option Value)} {kV_spill dc_spill pm_spill cd_spill ct_spill : Value}
    (a_spill : PySem.W.nsIn K mainGlobals "_spill" = some (some (.ref f_spill)))
    (l_spill : K.lookup f_spill = some ⟨oc_spill, od_spill, .func (PySem.W.fnOf "_spill" "_spill" (defArgs s_spill) (defBody s_spill) (defScope s_spill) .none kV_spill dc_spill pm_spill an_spill cd_spill ct_spill), sl_spill⟩)
    (c_spill : PySem.W.codeIn K cd_spill "_spill" = true)
    (k_spill : PySem.W.keepIn K (.ref f_spill) = true)
    {f_fill : Addr} {oc_fill : Value} {od_fill an_fill : Option Addr} {sl_fill : Array (Option Value)} {kV_fill dc_fill pm_fill cd_fill ct_fill : Value}
    (a_fill : PySem.W.nsIn K mainGlobals "_fill" = some (some (.ref f_fill)))
    (l_fill : K.lookup f_fill = some ⟨oc_fill, od_fill, .func (PySem.W.fnOf "_fill" "_fill" (defArgs s_fill) (defBody s_fill) (defScope s_fill) .none kV_fill dc_fill pm_fill an_fill cd_fill ct_fill), sl_fill⟩)
    (c_fill : PySem.W.codeIn K cd_fill "_fill" = true)
    (k_fill : PySem.W.keepIn K (.ref f_fill) = true)
    {f_moves : Addr} {oc_moves : Value} {od_moves an_moves : Option Addr} {sl_moves : Array (Option Value)} {kV_moves dc_moves pm_moves cd_moves ct_moves : Value}
    (a_moves : PySem.W.nsIn K mainGlobals "_moves" = some (some (.ref f_moves)))
    (l_moves : K.lookup f_moves = some ⟨oc_moves, od_moves, .func (PySem.W.fnOf "_moves" "_moves" (defArgs s_moves) (defBody s_moves) (defScope s_moves) .none kV_moves dc_moves pm_moves an_moves cd_moves ct_moves), sl_moves⟩)
    (c_moves : PySem.W.codeIn K cd_moves "_moves" = true)
    (k_moves : PySem.W.keepIn K (.ref f_moves) = true)
    {f_Banks___init__ : Addr} {oc_Banks___init__ : Value} {od_Banks___init__ an_Banks___init__ : Option Addr} {sl_Banks___init__ : Array (Option Value)} {kV_Banks___init__ dc_Banks___init__ pm_Banks___init__ cd_Banks___init__ ct_Banks___init__ : Value}
    (a_Banks___init__ : PySem.W.findIn K (.ref C_Banks) "__init__" = some (some (.ref f_Banks___init__)))
    (i_Banks___init__ : PySem.W.isFn K (.ref f_Banks___init__) = true)
    (l_Banks___init__ : K.lookup f_Banks___init__ = some ⟨oc_Banks___init__, od_Banks___init__, .func (PySem.W.fnOf "__init__" "Banks.__init__" (defArgs s_Banks___init__) (defBody s_Banks___init__) (defScope s_Banks___init__) .none kV_Banks___init__ dc_Banks___init__ pm_Banks___init__ an_Banks___init__ cd_Banks___init__ ct_Banks___init__), sl_Banks___init__⟩)
    (c_Banks___init__ : PySem.W.codeIn K cd_Banks___init__ "Banks.__init__" = true)
    (k_Banks___init__ : PySem.W.keepIn K (.ref f_Banks___init__) = true)
    {f_Banks_read : Addr} {oc_Banks_read : Value} {od_Banks_read an_Banks_read : Option Addr} {sl_Banks_read : Array (Option Value)} {kV_Banks_read dc_Banks_read pm_Banks_read cd_Banks_read ct_Banks_read : Value}
    (a_Banks_read : PySem.W.findIn K (.ref C_Banks) "read" = some (some (.ref f_Banks_read)))
    (i_Banks_read : PySem.W.isFn K (.ref f_Banks_read) = true)
    (l_Banks_read : K.lookup f_Banks_read = some ⟨oc_Banks_read, od_Banks_read, .func (PySem.W.fnOf "read" "Banks.read" (defArgs s_Banks_read) (defBody s_Banks_read) (defScope s_Banks_read) .none kV_Banks_read dc_Banks_read pm_Banks_read an_Banks_read cd_Banks_read ct_Banks_read), sl_Banks_read⟩)
    (c_Banks_read : PySem.W.codeIn K cd_Banks_read "Banks.read" = true)
    (k_Banks_read : PySem.W.keepIn K (.ref f_Banks_read) = true)
    {f_Banks_write : Addr} {oc_Banks_write : Value} {od_Banks_write an_Banks_write : Option Addr} {sl_Banks_write : Array (Option Value)} {kV_Banks_write dc_Banks_write pm_Banks_write cd_Banks_write ct_Banks_write : Value}
    (a_Banks_write : PySem.W.findIn K (.ref C_Banks) "write" = some (some (.ref f_Banks_write)))
    (i_Banks_write : PySem.W.isFn K (.ref f_Banks_write) = true)
    (l_Banks_write : K.lookup f_Banks_write = some ⟨oc_Banks_write, od_Banks_write, .func (PySem.W.fnOf "write" "Banks.write" (defArgs s_Banks_write) (defBody s_Banks_write) (defScope s_Banks_write) .none kV_Banks_write dc_Banks_write pm_Banks_write an_Banks_write cd_Banks_write ct_Banks_write), sl_Banks_write⟩)
    (c_Banks_write : PySem.W.codeIn K cd_Banks_write "Banks.write" = true)
    (k_Banks_write : PySem.W.keepIn K (.ref f_Banks_write) = true)
    {f_Banks_shift_down : Addr} {oc_Banks_shift_down : Value} {od_Banks_shift_down an_Banks_shift_down : Option Addr} {sl_Banks_shift_down : Array (Option Value)} {kV_Banks_shift_down dc_Banks_shift_down pm_Banks_shift_down cd_Banks_shift_down ct_Banks_shift_down : Value}
    (a_Banks_shift_down : PySem.W.findIn K (.ref C_Banks) "shift_down" = some (some (.ref f_Banks_shift_down)))
    (i_Banks_shift_down : PySem.W.isFn K (.ref f_Banks_shift_down) = true)
    (l_Banks_shift_down : K.lookup f_Banks_shift_down = some ⟨oc_Banks_shift_down, od_Banks_shift_down, .func (PySem.W.fnOf "shift_down" "Banks.shift_down" (defArgs s_Banks_shift_down) (defBody s_Banks_shift_down) (defScope s_Banks_shift_down) .none kV_Banks_shift_down dc_Banks_shift_down pm_Banks_shift_down an_Banks_shift_down cd_Banks_shift_down ct_Banks_shift_down), sl_Banks_shift_down⟩)
    (c_Banks_shift_down : PySem.W.codeIn K cd_Banks_shift_down "Banks.shift_down" = true)
    (k_Banks_shift_down : PySem.W.keepIn K (.ref f_Banks_shift_down) = true)
    {f_Banks_shift_up : Addr} {oc_Banks_shift_up : Value} {od_Banks_shift_up an_Banks_shift_up : Option Addr} {sl_Banks_shift_up : Array (Option Value)} {kV_Banks_shift_up dc_Banks_shift_up pm_Banks_shift_up cd_Banks_shift_up ct_Banks_shift_up : Value}
    (a_Banks_shift_up : PySem.W.findIn K (.ref C_Banks) "shift_up" = some (some (.ref f_Banks_shift_up)))
    (i_Banks_shift_up : PySem.W.isFn K (.ref f_Banks_shift_up) = true)
    (l_Banks_shift_up : K.lookup f_Banks_shift_up = some ⟨oc_Banks_shift_up, od_Banks_shift_up, .func (PySem.W.fnOf "shift_up" "Banks.shift_up" (defArgs s_Banks_shift_up) (defBody s_Banks_shift_up) (defScope s_Banks_shift_up) .none kV_Banks_shift_up dc_Banks_shift_up pm_Banks_shift_up an_Banks_shift_up cd_Banks_shift_up ct_Banks_shift_up), sl_Banks_shift_up⟩)
    (c_Banks_shift_up : PySem.W.codeIn K cd_Banks_shift_up "Banks.shift_up" = true)
    (k_Banks_shift_up : PySem.W.keepIn K (.ref f_Banks_shift_up) = true)
    {f_Banks_blocked_down : Addr} {oc_Banks_blocked_down : Value} {od_Banks_blocked_down an_Banks_blocked_down : Option Addr} {sl_Banks_blocked_down : Array (Option Value)} {kV_Banks_blocked_down dc_Banks_blocked_down pm_Banks_blocked_down cd_Banks_blocked_down ct_Banks_blocked_down : Value}
    (a_Banks_blocked_down : PySem.W.findIn K (.ref C_Banks) "blocked_down" = some (some (.ref f_Banks_blocked_down)))
    (i_Banks_blocked_down : PySem.W.isFn K (.ref f_Banks_blocked_down) = true)
    (l_Banks_blocked_down : K.lookup f_Banks_blocked_down = some ⟨oc_Banks_blocked_down, od_Banks_blocked_down, .func (PySem.W.fnOf "blocked_down" "Banks.blocked_down" (defArgs s_Banks_blocked_down) (defBody s_Banks_blocked_down) (defScope s_Banks_blocked_down) .none kV_Banks_blocked_down dc_Banks_blocked_down pm_Banks_blocked_down an_Banks_blocked_down cd_Banks_blocked_down ct_Banks_blocked_down), sl_Banks_blocked_down⟩)
    (c_Banks_blocked_down : PySem.W.codeIn K cd_Banks_blocked_down "Banks.blocked_down" = true)
    (k_Banks_blocked_down : PySem.W.keepIn K (.ref f_Banks_blocked_down) = true)
    {f_Banks_blocked_up : Addr} {oc_Banks_blocked_up : Value} {od_Banks_blocked_up an_Banks_blocked_up : Option Addr} {sl_Banks_blocked_up : Array (Option Value)} {kV_Banks_blocked_up dc_Banks_blocked_up pm_Banks_blocked_up cd_Banks_blocked_up ct_Banks_blocked_up : Value}
    (a_Banks_blocked_up : PySem.W.findIn K (.ref C_Banks) "blocked_up" = some (some (.ref f_Banks_blocked_up)))
    (i_Banks_blocked_up : PySem.W.isFn K (.ref f_Banks_blocked_up) = true)
    (l_Banks_blocked_up : K.lookup f_Banks_blocked_up = some ⟨oc_Banks_blocked_up, od_Banks_blocked_up, .func (PySem.W.fnOf "blocked_up" "Banks.blocked_up" (defArgs s_Banks_blocked_up) (defBody s_Banks_blocked_up) (defScope s_Banks_blocked_up) .none kV_Banks_blocked_up dc_Banks_blocked_up pm_Banks_blocked_up an_Banks_blocked_up cd_Banks_blocked_up ct_Banks_blocked_up), sl_Banks_blocked_up⟩)
    (c_Banks_blocked_up : PySem.W.codeIn K cd_Banks_blocked_up "Banks.blocked_up" = true)
    (k_Banks_blocked_up : PySem.W.keepIn K (.ref f_Banks_blocked_up) = true)
    {f_Banks_set_bar : Addr} {oc_Banks_set_bar : Value} {od_Banks_set_bar an_Banks_set_bar : Option Addr} {sl_Banks_set_bar : Array (Option Value)} {kV_Banks_set_bar dc_Banks_set_bar pm_Banks_set_bar cd_Banks_set_bar ct_Banks_set_bar : Value}
    (a_Banks_set_bar : PySem.W.findIn K (.ref C_Banks) "set_bar" = some (some (.ref f_Banks_set_bar)))
    (i_Banks_set_bar : PySem.W.isFn K (.ref f_Banks_set_bar) = true)
    (l_Banks_set_bar : K.lookup f_Banks_set_bar = some ⟨oc_Banks_set_bar, od_Banks_set_bar, .func (PySem.W.fnOf "set_bar" "Banks.set_bar" (defArgs s_Banks_set_bar) (defBody s_Banks_set_bar) (defScope s_Banks_set_bar) .none kV_Banks_set_bar dc_Banks_set_bar pm_Banks_set_bar an_Banks_set_bar cd_Banks_set_bar ct_Banks_set_bar), sl_Banks_set_bar⟩)
    (c_Banks_set_bar : PySem.W.codeIn K cd_Banks_set_bar "Banks.set_bar" = true)
    (k_Banks_set_bar : PySem.W.keepIn K (.ref f_Banks_set_bar) = true)
    {f_Banks_trap_down : Addr} {oc_Banks_trap_down : Value} {od_Banks_trap_down an_Banks_trap_down : Option Addr} {sl_Banks_trap_down : Array (Option Value)} {kV_Banks_trap_down dc_Banks_trap_down pm_Banks_trap_down cd_Banks_trap_down ct_Banks_trap_down : Value}
    (a_Banks_trap_down : PySem.W.findIn K (.ref C_Banks) "trap_down" = some (some (.ref f_Banks_trap_down)))
    (i_Banks_trap_down : PySem.W.isFn K (.ref f_Banks_trap_down) = true)
    (l_Banks_trap_down : K.lookup f_Banks_trap_down = some ⟨oc_Banks_trap_down, od_Banks_trap_down, .func (PySem.W.fnOf "trap_down" "Banks.trap_down" (defArgs s_Banks_trap_down) (defBody s_Banks_trap_down) (defScope s_Banks_trap_down) .none kV_Banks_trap_down dc_Banks_trap_down pm_Banks_trap_down an_Banks_trap_down cd_Banks_trap_down ct_Banks_trap_down), sl_Banks_trap_down⟩)
    (c_Banks_trap_down : PySem.W.codeIn K cd_Banks_trap_down "Banks.trap_down" = true)
    (k_Banks_trap_down : PySem.W.keepIn K (.ref f_Banks_trap_down) = true)
    {f_Banks_trap_up : Addr} {oc_Banks_trap_up : Value} {od_Banks_trap_up an_Banks_trap_up : Option Addr} {sl_Banks_trap_up : Array (Option Value)} {kV_Banks_trap_up dc_Banks_trap_up pm_Banks_trap_up cd_Banks_trap_up ct_Banks_trap_up : Value}
    (a_Banks_trap_up : PySem.W.findIn K (.ref C_Banks) "trap_up" = some (some (.ref f_Banks_trap_up)))
    (i_Banks_trap_up : PySem.W.isFn K (.ref f_Banks_trap_up) = true)
    (l_Banks_trap_up : K.lookup f_Banks_trap_up = some ⟨oc_Banks_trap_up, od_Banks_trap_up, .func (PySem.W.fnOf "trap_up" "Banks.trap_up" (defArgs s_Banks_trap_up) (defBody s_Banks_trap_up) (defScope s_Banks_trap_up) .none kV_Banks_trap_up dc_Banks_trap_up pm_Banks_trap_up an_Banks_trap_up cd_Banks_trap_up ct_Banks_trap_up), sl_Banks_trap_up⟩)
    (c_Banks_trap_up : PySem.W.codeIn K cd_Banks_trap_up "Banks.trap_up" = true)
    (k_Banks_trap_up : PySem.W.keepIn K (.ref f_Banks_trap_up) = true)
    {f_Banks_leave_trap : Addr} {oc_Banks_leave_trap : Value} {od_Banks_leave_trap an_Banks_leave_trap : Option Addr} {sl_Banks_leave_trap : Array (Option Value)} {kV_Banks_leave_trap dc_Banks_leave_trap pm_Banks_leave_trap cd_Banks_leave_trap ct_Banks_leave_trap : Value}
    (a_Banks_leave_trap : PySem.W.findIn K (.ref C_Banks) "leave_trap" = some (some (.ref f_Banks_leave_trap)))
    (i_Banks_leave_trap : PySem.W.isFn K (.ref f_Banks_leave_trap) = true)
    (l_Banks_leave_trap : K.lookup f_Banks_leave_trap = some ⟨oc_Banks_leave_trap, od_Banks_leave_trap, .func (PySem.W.fnOf "leave_trap" "Banks.leave_trap" (defArgs s_Banks_leave_trap) (defBody s_Banks_leave_trap) (defScope s_Banks_leave_trap) .none kV_Banks_leave_trap dc_Banks_leave_trap pm_Banks_leave_trap an_Banks_leave_trap cd_Banks_leave_trap ct_Banks_leave_trap), sl_Banks_leave_trap⟩)
    (c_Banks_leave_trap : PySem.W.codeIn K cd_Banks_leave_trap "Banks.leave_trap" = true)
    (k_Banks_leave_trap : PySem.W.keepIn K (.ref f_Banks_leave_trap) = true)
    {f_Banks__begin_trap : Addr} {oc_Banks__begin_trap : Value} {od_Banks__begin_trap an_Banks__begin_trap : Option Addr} {sl_Banks__begin_trap : Array (Option Value)} {kV_Banks__begin_trap dc_Banks__begin_trap pm_Banks__begin_trap cd_Banks__begin_trap ct_Banks__begin_trap : Value}
    (a_Banks__begin_trap : PySem.W.findIn K (.ref C_Banks) "_begin_trap" = some (some (.ref f_Banks__begin_trap)))
    (i_Banks__begin_trap : PySem.W.isFn K (.ref f_Banks__begin_trap) = true)
    (l_Banks__begin_trap : K.lookup f_Banks__begin_trap = some ⟨oc_Banks__begin_trap, od_Banks__begin_trap, .func (PySem.W.fnOf "_begin_trap" "Banks._begin_trap" (defArgs s_Banks__begin_trap) (defBody s_Banks__begin_trap) (defScope s_Banks__begin_trap) .none kV_Banks__begin_trap dc_Banks__begin_trap pm_Banks__begin_trap an_Banks__begin_trap cd_Banks__begin_trap ct_Banks__begin_trap), sl_Banks__begin_trap⟩)
    (c_Banks__begin_trap : PySem.W.codeIn K cd_Banks__begin_trap "Banks._begin_trap" = true)
    (k_Banks__begin_trap : PySem.W.keepIn K (.ref f_Banks__begin_trap) = true)
    {f_Banks__go_down : Addr} {oc_Banks__go_down : Value} {od_Banks__go_down an_Banks__go_down : Option Addr} {sl_Banks__go_down : Array (Option Value)} {kV_Banks__go_down dc_Banks__go_down pm_Banks__go_down cd_Banks__go_down ct_Banks__go_down : Value}
    (a_Banks__go_down : PySem.W.findIn K (.ref C_Banks) "_go_down" = some (some (.ref f_Banks__go_down)))
    (i_Banks__go_down : PySem.W.isFn K (.ref f_Banks__go_down) = true)
    (l_Banks__go_down : K.lookup f_Banks__go_down = some ⟨oc_Banks__go_down, od_Banks__go_down, .func (PySem.W.fnOf "_go_down" "Banks._go_down" (defArgs s_Banks__go_down) (defBody s_Banks__go_down) (defScope s_Banks__go_down) .none kV_Banks__go_down dc_Banks__go_down pm_Banks__go_down an_Banks__go_down cd_Banks__go_down ct_Banks__go_down), sl_Banks__go_down⟩)
    (c_Banks__go_down : PySem.W.codeIn K cd_Banks__go_down "Banks._go_down" = true)
    (k_Banks__go_down : PySem.W.keepIn K (.ref f_Banks__go_down) = true)
    {f_Banks__window_below : Addr} {oc_Banks__window_below : Value} {od_Banks__window_below an_Banks__window_below : Option Addr} {sl_Banks__window_below : Array (Option Value)} {kV_Banks__window_below dc_Banks__window_below pm_Banks__window_below cd_Banks__window_below ct_Banks__window_below : Value}
    (a_Banks__window_below : PySem.W.findIn K (.ref C_Banks) "_window_below" = some (some (.ref f_Banks__window_below)))
    (i_Banks__window_below : PySem.W.isFn K (.ref f_Banks__window_below) = true)
    (l_Banks__window_below : K.lookup f_Banks__window_below = some ⟨oc_Banks__window_below, od_Banks__window_below, .func (PySem.W.fnOf "_window_below" "Banks._window_below" (defArgs s_Banks__window_below) (defBody s_Banks__window_below) (defScope s_Banks__window_below) .none kV_Banks__window_below dc_Banks__window_below pm_Banks__window_below an_Banks__window_below cd_Banks__window_below ct_Banks__window_below), sl_Banks__window_below⟩)
    (c_Banks__window_below : PySem.W.codeIn K cd_Banks__window_below "Banks._window_below" = true)
    (k_Banks__window_below : PySem.W.keepIn K (.ref f_Banks__window_below) = true)
    {f_Banks__window_above : Addr} {oc_Banks__window_above : Value} {od_Banks__window_above an_Banks__window_above : Option Addr} {sl_Banks__window_above : Array (Option Value)} {kV_Banks__window_above dc_Banks__window_above pm_Banks__window_above cd_Banks__window_above ct_Banks__window_above : Value}
    (a_Banks__window_above : PySem.W.findIn K (.ref C_Banks) "_window_above" = some (some (.ref f_Banks__window_above)))
    (i_Banks__window_above : PySem.W.isFn K (.ref f_Banks__window_above) = true)
    (l_Banks__window_above : K.lookup f_Banks__window_above = some ⟨oc_Banks__window_above, od_Banks__window_above, .func (PySem.W.fnOf "_window_above" "Banks._window_above" (defArgs s_Banks__window_above) (defBody s_Banks__window_above) (defScope s_Banks__window_above) .none kV_Banks__window_above dc_Banks__window_above pm_Banks__window_above an_Banks__window_above cd_Banks__window_above ct_Banks__window_above), sl_Banks__window_above⟩)
    (c_Banks__window_above : PySem.W.codeIn K cd_Banks__window_above "Banks._window_above" = true)
    (k_Banks__window_above : PySem.W.keepIn K (.ref f_Banks__window_above) = true)
    {f_empty_view : Addr} {oc_empty_view : Value} {od_empty_view an_empty_view : Option Addr} {sl_empty_view : Array (Option Value)} {kV_empty_view dc_empty_view pm_empty_view cd_empty_view ct_empty_view : Value}
    (a_empty_view : PySem.W.nsIn K mainGlobals "empty_view" = some (some (.ref f_empty_view)))
    (l_empty_view : K.lookup f_empty_view = some ⟨oc_empty_view, od_empty_view, .func (PySem.W.fnOf "empty_view" "empty_view" (defArgs s_empty_view) (defBody s_empty_view) (defScope s_empty_view) .none kV_empty_view dc_empty_view pm_empty_view an_empty_view cd_empty_view ct_empty_view), sl_empty_view⟩)
    (c_empty_view : PySem.W.codeIn K cd_empty_view "empty_view" = true)
    (k_empty_view : PySem.W.keepIn K (.ref f_empty_view) = true)
    {f_locals_and_ins : Addr} {oc_locals_and_ins : Value} {od_locals_and_ins an_locals_and_ins : Option Addr} {sl_locals_and_ins : Array (Option Value)} {kV_locals_and_ins dc_locals_and_ins pm_locals_and_ins cd_locals_and_ins ct_locals_and_ins : Value}
    (a_locals_and_ins : PySem.W.nsIn K mainGlobals "locals_and_ins" = some (some (.ref f_locals_and_ins)))
    (l_locals_and_ins : K.lookup f_locals_and_ins = some ⟨oc_locals_and_ins, od_locals_and_ins, .func (PySem.W.fnOf "locals_and_ins" "locals_and_ins" (defArgs s_locals_and_ins) (defBody s_locals_and_ins) (defScope s_locals_and_ins) .none kV_locals_and_ins dc_locals_and_ins pm_locals_and_ins an_locals_and_ins cd_locals_and_ins ct_locals_and_ins), sl_locals_and_ins⟩)
    (c_locals_and_ins : PySem.W.codeIn K cd_locals_and_ins "locals_and_ins" = true)
    (k_locals_and_ins : PySem.W.keepIn K (.ref f_locals_and_ins) = true)
    {f_view_below : Addr} {oc_view_below : Value} {od_view_below an_view_below : Option Addr} {sl_view_below : Array (Option Value)} {kV_view_below dc_view_below pm_view_below cd_view_below ct_view_below : Value}
    (a_view_below : PySem.W.nsIn K mainGlobals "view_below" = some (some (.ref f_view_below)))
    (l_view_below : K.lookup f_view_below = some ⟨oc_view_below, od_view_below, .func (PySem.W.fnOf "view_below" "view_below" (defArgs s_view_below) (defBody s_view_below) (defScope s_view_below) .none kV_view_below dc_view_below pm_view_below an_view_below cd_view_below ct_view_below), sl_view_below⟩)
    (c_view_below : PySem.W.codeIn K cd_view_below "view_below" = true)
    (k_view_below : PySem.W.keepIn K (.ref f_view_below) = true)
    {f_view_above : Addr} {oc_view_above : Value} {od_view_above an_view_above : Option Addr} {sl_view_above : Array (Option Value)} {kV_view_above dc_view_above pm_view_above cd_view_above ct_view_above : Value}
    (a_view_above : PySem.W.nsIn K mainGlobals "view_above" = some (some (.ref f_view_above)))
    (l_view_above : K.lookup f_view_above = some ⟨oc_view_above, od_view_above, .func (PySem.W.fnOf "view_above" "view_above" (defArgs s_view_above) (defBody s_view_above) (defScope s_view_above) .none kV_view_above dc_view_above pm_view_above an_view_above cd_view_above ct_view_above), sl_view_above⟩)
    (c_view_above : PySem.W.codeIn K cd_view_above "view_above" = true)
    (k_view_above : PySem.W.keepIn K (.ref f_view_above) = true)
    {f_Ring___init__ : Addr} {oc_Ring___init__ : Value} {od_Ring___init__ an_Ring___init__ : Option Addr} {sl_Ring___init__ : Array (Option Value)} {kV_Ring___init__ dc_Ring___init__ pm_Ring___init__ cd_Ring___init__ ct_Ring___init__ : Value}
    (a_Ring___init__ : PySem.W.findIn K (.ref C_Ring) "__init__" = some (some (.ref f_Ring___init__)))
    (i_Ring___init__ : PySem.W.isFn K (.ref f_Ring___init__) = true)
    (l_Ring___init__ : K.lookup f_Ring___init__ = some ⟨oc_Ring___init__, od_Ring___init__, .func (PySem.W.fnOf "__init__" "Ring.__init__" (defArgs s_Ring___init__) (defBody s_Ring___init__) (defScope s_Ring___init__) .none kV_Ring___init__ dc_Ring___init__ pm_Ring___init__ an_Ring___init__ cd_Ring___init__ ct_Ring___init__), sl_Ring___init__⟩)
    (c_Ring___init__ : PySem.W.codeIn K cd_Ring___init__ "Ring.__init__" = true)
    (k_Ring___init__ : PySem.W.keepIn K (.ref f_Ring___init__) = true)
    {f_Ring_read : Addr} {oc_Ring_read : Value} {od_Ring_read an_Ring_read : Option Addr} {sl_Ring_read : Array (Option Value)} {kV_Ring_read dc_Ring_read pm_Ring_read cd_Ring_read ct_Ring_read : Value}
    (a_Ring_read : PySem.W.findIn K (.ref C_Ring) "read" = some (some (.ref f_Ring_read)))
    (i_Ring_read : PySem.W.isFn K (.ref f_Ring_read) = true)
    (l_Ring_read : K.lookup f_Ring_read = some ⟨oc_Ring_read, od_Ring_read, .func (PySem.W.fnOf "read" "Ring.read" (defArgs s_Ring_read) (defBody s_Ring_read) (defScope s_Ring_read) .none kV_Ring_read dc_Ring_read pm_Ring_read an_Ring_read cd_Ring_read ct_Ring_read), sl_Ring_read⟩)
    (c_Ring_read : PySem.W.codeIn K cd_Ring_read "Ring.read" = true)
    (k_Ring_read : PySem.W.keepIn K (.ref f_Ring_read) = true)
    {f_Ring_write : Addr} {oc_Ring_write : Value} {od_Ring_write an_Ring_write : Option Addr} {sl_Ring_write : Array (Option Value)} {kV_Ring_write dc_Ring_write pm_Ring_write cd_Ring_write ct_Ring_write : Value}
    (a_Ring_write : PySem.W.findIn K (.ref C_Ring) "write" = some (some (.ref f_Ring_write)))
    (i_Ring_write : PySem.W.isFn K (.ref f_Ring_write) = true)
    (l_Ring_write : K.lookup f_Ring_write = some ⟨oc_Ring_write, od_Ring_write, .func (PySem.W.fnOf "write" "Ring.write" (defArgs s_Ring_write) (defBody s_Ring_write) (defScope s_Ring_write) .none kV_Ring_write dc_Ring_write pm_Ring_write an_Ring_write cd_Ring_write ct_Ring_write), sl_Ring_write⟩)
    (c_Ring_write : PySem.W.codeIn K cd_Ring_write "Ring.write" = true)
    (k_Ring_write : PySem.W.keepIn K (.ref f_Ring_write) = true)
    {f_Ring_shift_down : Addr} {oc_Ring_shift_down : Value} {od_Ring_shift_down an_Ring_shift_down : Option Addr} {sl_Ring_shift_down : Array (Option Value)} {kV_Ring_shift_down dc_Ring_shift_down pm_Ring_shift_down cd_Ring_shift_down ct_Ring_shift_down : Value}
    (a_Ring_shift_down : PySem.W.findIn K (.ref C_Ring) "shift_down" = some (some (.ref f_Ring_shift_down)))
    (i_Ring_shift_down : PySem.W.isFn K (.ref f_Ring_shift_down) = true)
    (l_Ring_shift_down : K.lookup f_Ring_shift_down = some ⟨oc_Ring_shift_down, od_Ring_shift_down, .func (PySem.W.fnOf "shift_down" "Ring.shift_down" (defArgs s_Ring_shift_down) (defBody s_Ring_shift_down) (defScope s_Ring_shift_down) .none kV_Ring_shift_down dc_Ring_shift_down pm_Ring_shift_down an_Ring_shift_down cd_Ring_shift_down ct_Ring_shift_down), sl_Ring_shift_down⟩)
    (c_Ring_shift_down : PySem.W.codeIn K cd_Ring_shift_down "Ring.shift_down" = true)
    (k_Ring_shift_down : PySem.W.keepIn K (.ref f_Ring_shift_down) = true)
    {f_Ring_shift_up : Addr} {oc_Ring_shift_up : Value} {od_Ring_shift_up an_Ring_shift_up : Option Addr} {sl_Ring_shift_up : Array (Option Value)} {kV_Ring_shift_up dc_Ring_shift_up pm_Ring_shift_up cd_Ring_shift_up ct_Ring_shift_up : Value}
    (a_Ring_shift_up : PySem.W.findIn K (.ref C_Ring) "shift_up" = some (some (.ref f_Ring_shift_up)))
    (i_Ring_shift_up : PySem.W.isFn K (.ref f_Ring_shift_up) = true)
    (l_Ring_shift_up : K.lookup f_Ring_shift_up = some ⟨oc_Ring_shift_up, od_Ring_shift_up, .func (PySem.W.fnOf "shift_up" "Ring.shift_up" (defArgs s_Ring_shift_up) (defBody s_Ring_shift_up) (defScope s_Ring_shift_up) .none kV_Ring_shift_up dc_Ring_shift_up pm_Ring_shift_up an_Ring_shift_up cd_Ring_shift_up ct_Ring_shift_up), sl_Ring_shift_up⟩)
    (c_Ring_shift_up : PySem.W.codeIn K cd_Ring_shift_up "Ring.shift_up" = true)
    (k_Ring_shift_up : PySem.W.keepIn K (.ref f_Ring_shift_up) = true)
    {f_Ring_blocked_down : Addr} {oc_Ring_blocked_down : Value} {od_Ring_blocked_down an_Ring_blocked_down : Option Addr} {sl_Ring_blocked_down : Array (Option Value)} {kV_Ring_blocked_down dc_Ring_blocked_down pm_Ring_blocked_down cd_Ring_blocked_down ct_Ring_blocked_down : Value}
    (a_Ring_blocked_down : PySem.W.findIn K (.ref C_Ring) "blocked_down" = some (some (.ref f_Ring_blocked_down)))
    (i_Ring_blocked_down : PySem.W.isFn K (.ref f_Ring_blocked_down) = true)
    (l_Ring_blocked_down : K.lookup f_Ring_blocked_down = some ⟨oc_Ring_blocked_down, od_Ring_blocked_down, .func (PySem.W.fnOf "blocked_down" "Ring.blocked_down" (defArgs s_Ring_blocked_down) (defBody s_Ring_blocked_down) (defScope s_Ring_blocked_down) .none kV_Ring_blocked_down dc_Ring_blocked_down pm_Ring_blocked_down an_Ring_blocked_down cd_Ring_blocked_down ct_Ring_blocked_down), sl_Ring_blocked_down⟩)
    (c_Ring_blocked_down : PySem.W.codeIn K cd_Ring_blocked_down "Ring.blocked_down" = true)
    (k_Ring_blocked_down : PySem.W.keepIn K (.ref f_Ring_blocked_down) = true)
    {f_Ring_blocked_up : Addr} {oc_Ring_blocked_up : Value} {od_Ring_blocked_up an_Ring_blocked_up : Option Addr} {sl_Ring_blocked_up : Array (Option Value)} {kV_Ring_blocked_up dc_Ring_blocked_up pm_Ring_blocked_up cd_Ring_blocked_up ct_Ring_blocked_up : Value}
    (a_Ring_blocked_up : PySem.W.findIn K (.ref C_Ring) "blocked_up" = some (some (.ref f_Ring_blocked_up)))
    (i_Ring_blocked_up : PySem.W.isFn K (.ref f_Ring_blocked_up) = true)
    (l_Ring_blocked_up : K.lookup f_Ring_blocked_up = some ⟨oc_Ring_blocked_up, od_Ring_blocked_up, .func (PySem.W.fnOf "blocked_up" "Ring.blocked_up" (defArgs s_Ring_blocked_up) (defBody s_Ring_blocked_up) (defScope s_Ring_blocked_up) .none kV_Ring_blocked_up dc_Ring_blocked_up pm_Ring_blocked_up an_Ring_blocked_up cd_Ring_blocked_up ct_Ring_blocked_up), sl_Ring_blocked_up⟩)
    (c_Ring_blocked_up : PySem.W.codeIn K cd_Ring_blocked_up "Ring.blocked_up" = true)
    (k_Ring_blocked_up : PySem.W.keepIn K (.ref f_Ring_blocked_up) = true)
    {f_Ring__spill : Addr} {oc_Ring__spill : Value} {od_Ring__spill an_Ring__spill : Option Addr} {sl_Ring__spill : Array (Option Value)} {kV_Ring__spill dc_Ring__spill pm_Ring__spill cd_Ring__spill ct_Ring__spill : Value}
    (a_Ring__spill : PySem.W.findIn K (.ref C_Ring) "_spill" = some (some (.ref f_Ring__spill)))
    (i_Ring__spill : PySem.W.isFn K (.ref f_Ring__spill) = true)
    (l_Ring__spill : K.lookup f_Ring__spill = some ⟨oc_Ring__spill, od_Ring__spill, .func (PySem.W.fnOf "_spill" "Ring._spill" (defArgs s_Ring__spill) (defBody s_Ring__spill) (defScope s_Ring__spill) .none kV_Ring__spill dc_Ring__spill pm_Ring__spill an_Ring__spill cd_Ring__spill ct_Ring__spill), sl_Ring__spill⟩)
    (c_Ring__spill : PySem.W.codeIn K cd_Ring__spill "Ring._spill" = true)
    (k_Ring__spill : PySem.W.keepIn K (.ref f_Ring__spill) = true)
    {f_Ring__fill : Addr} {oc_Ring__fill : Value} {od_Ring__fill an_Ring__fill : Option Addr} {sl_Ring__fill : Array (Option Value)} {kV_Ring__fill dc_Ring__fill pm_Ring__fill cd_Ring__fill ct_Ring__fill : Value}
    (a_Ring__fill : PySem.W.findIn K (.ref C_Ring) "_fill" = some (some (.ref f_Ring__fill)))
    (i_Ring__fill : PySem.W.isFn K (.ref f_Ring__fill) = true)
    (l_Ring__fill : K.lookup f_Ring__fill = some ⟨oc_Ring__fill, od_Ring__fill, .func (PySem.W.fnOf "_fill" "Ring._fill" (defArgs s_Ring__fill) (defBody s_Ring__fill) (defScope s_Ring__fill) .none kV_Ring__fill dc_Ring__fill pm_Ring__fill an_Ring__fill cd_Ring__fill ct_Ring__fill), sl_Ring__fill⟩)
    (c_Ring__fill : PySem.W.codeIn K cd_Ring__fill "Ring._fill" = true)
    (k_Ring__fill : PySem.W.keepIn K (.ref f_Ring__fill) = true)
    {f_Ring__save_area : Addr} {oc_Ring__save_area : Value} {od_Ring__save_area an_Ring__save_area : Option Addr} {sl_Ring__save_area : Array (Option Value)} {kV_Ring__save_area dc_Ring__save_area pm_Ring__save_area cd_Ring__save_area ct_Ring__save_area : Value}
    (a_Ring__save_area : PySem.W.findIn K (.ref C_Ring) "_save_area" = some (some (.ref f_Ring__save_area)))
    (i_Ring__save_area : PySem.W.isFn K (.ref f_Ring__save_area) = true)
    (l_Ring__save_area : K.lookup f_Ring__save_area = some ⟨oc_Ring__save_area, od_Ring__save_area, .func (PySem.W.fnOf "_save_area" "Ring._save_area" (defArgs s_Ring__save_area) (defBody s_Ring__save_area) (defScope s_Ring__save_area) .none kV_Ring__save_area dc_Ring__save_area pm_Ring__save_area an_Ring__save_area cd_Ring__save_area ct_Ring__save_area), sl_Ring__save_area⟩)
    (c_Ring__save_area : PySem.W.codeIn K cd_Ring__save_area "Ring._save_area" = true)
    (k_Ring__save_area : PySem.W.keepIn K (.ref f_Ring__save_area) = true)
    {f_law_pick : Addr} {oc_law_pick : Value} {od_law_pick an_law_pick : Option Addr} {sl_law_pick : Array (Option Value)} {kV_law_pick dc_law_pick pm_law_pick cd_law_pick ct_law_pick : Value}
    (a_law_pick : PySem.W.nsIn K mainGlobals "_law_pick" = some (some (.ref f_law_pick)))
    (l_law_pick : K.lookup f_law_pick = some ⟨oc_law_pick, od_law_pick, .func (PySem.W.fnOf "_law_pick" "_law_pick" (defArgs s_law_pick) (defBody s_law_pick) (defScope s_law_pick) .none kV_law_pick dc_law_pick pm_law_pick an_law_pick cd_law_pick ct_law_pick), sl_law_pick⟩)
    (c_law_pick : PySem.W.codeIn K cd_law_pick "_law_pick" = true)
    (k_law_pick : PySem.W.keepIn K (.ref f_law_pick) = true)
    {f_law_is_integer : Addr} {oc_law_is_integer : Value} {od_law_is_integer an_law_is_integer : Option Addr} {sl_law_is_integer : Array (Option Value)} {kV_law_is_integer dc_law_is_integer pm_law_is_integer cd_law_is_integer ct_law_is_integer : Value}
    (a_law_is_integer : PySem.W.nsIn K mainGlobals "_law_is_integer" = some (some (.ref f_law_is_integer)))
    (l_law_is_integer : K.lookup f_law_is_integer = some ⟨oc_law_is_integer, od_law_is_integer, .func (PySem.W.fnOf "_law_is_integer" "_law_is_integer" (defArgs s_law_is_integer) (defBody s_law_is_integer) (defScope s_law_is_integer) .none kV_law_is_integer dc_law_is_integer pm_law_is_integer an_law_is_integer cd_law_is_integer ct_law_is_integer), sl_law_is_integer⟩)
    (c_law_is_integer : PySem.W.codeIn K cd_law_is_integer "_law_is_integer" = true)
    (k_law_is_integer : PySem.W.keepIn K (.ref f_law_is_integer) = true)
    {f_law_word : Addr} {oc_law_word : Value} {od_law_word an_law_word : Option Addr} {sl_law_word : Array (Option Value)} {kV_law_word dc_law_word pm_law_word cd_law_word ct_law_word : Value}
    (a_law_word : PySem.W.nsIn K mainGlobals "_law_word" = some (some (.ref f_law_word)))
    (l_law_word : K.lookup f_law_word = some ⟨oc_law_word, od_law_word, .func (PySem.W.fnOf "_law_word" "_law_word" (defArgs s_law_word) (defBody s_law_word) (defScope s_law_word) .none kV_law_word dc_law_word pm_law_word an_law_word cd_law_word ct_law_word), sl_law_word⟩)
    (c_law_word : PySem.W.codeIn K cd_law_word "_law_word" = true)
    (k_law_word : PySem.W.keepIn K (.ref f_law_word) = true)
    {f_law_spill : Addr} {oc_law_spill : Value} {od_law_spill an_law_spill : Option Addr} {sl_law_spill : Array (Option Value)} {kV_law_spill dc_law_spill pm_law_spill cd_law_spill ct_law_spill : Value}
    (a_law_spill : PySem.W.nsIn K mainGlobals "_law_spill" = some (some (.ref f_law_spill)))
    (l_law_spill : K.lookup f_law_spill = some ⟨oc_law_spill, od_law_spill, .func (PySem.W.fnOf "_law_spill" "_law_spill" (defArgs s_law_spill) (defBody s_law_spill) (defScope s_law_spill) .none kV_law_spill dc_law_spill pm_law_spill an_law_spill cd_law_spill ct_law_spill), sl_law_spill⟩)
    (c_law_spill : PySem.W.codeIn K cd_law_spill "_law_spill" = true)
    (k_law_spill : PySem.W.keepIn K (.ref f_law_spill) = true)
    {f_law_fill : Addr} {oc_law_fill : Value} {od_law_fill an_law_fill : Option Addr} {sl_law_fill : Array (Option Value)} {kV_law_fill dc_law_fill pm_law_fill cd_law_fill ct_law_fill : Value}
    (a_law_fill : PySem.W.nsIn K mainGlobals "_law_fill" = some (some (.ref f_law_fill)))
    (l_law_fill : K.lookup f_law_fill = some ⟨oc_law_fill, od_law_fill, .func (PySem.W.fnOf "_law_fill" "_law_fill" (defArgs s_law_fill) (defBody s_law_fill) (defScope s_law_fill) .none kV_law_fill dc_law_fill pm_law_fill an_law_fill cd_law_fill ct_law_fill), sl_law_fill⟩)
    (c_law_fill : PySem.W.codeIn K cd_law_fill "_law_fill" = true)
    (k_law_fill : PySem.W.keepIn K (.ref f_law_fill) = true)
    {f_law_words : Addr} {oc_law_words : Value} {od_law_words an_law_words : Option Addr} {sl_law_words : Array (Option Value)} {kV_law_words dc_law_words pm_law_words cd_law_words ct_law_words : Value}
    (a_law_words : PySem.W.nsIn K mainGlobals "_law_words" = some (some (.ref f_law_words)))
    (l_law_words : K.lookup f_law_words = some ⟨oc_law_words, od_law_words, .func (PySem.W.fnOf "_law_words" "_law_words" (defArgs s_law_words) (defBody s_law_words) (defScope s_law_words) .none kV_law_words dc_law_words pm_law_words an_law_words cd_law_words ct_law_words), sl_law_words⟩)
    (c_law_words : PySem.W.codeIn K cd_law_words "_law_words" = true)
    (k_law_words : PySem.W.keepIn K (.ref f_law_words) = true)
    {f_law_value : Addr} {oc_law_value : Value} {od_law_value an_law_value : Option Addr} {sl_law_value : Array (Option Value)} {kV_law_value dc_law_value pm_law_value cd_law_value ct_law_value : Value}
    (a_law_value : PySem.W.nsIn K mainGlobals "_law_value" = some (some (.ref f_law_value)))
    (l_law_value : K.lookup f_law_value = some ⟨oc_law_value, od_law_value, .func (PySem.W.fnOf "_law_value" "_law_value" (defArgs s_law_value) (defBody s_law_value) (defScope s_law_value) .none kV_law_value dc_law_value pm_law_value an_law_value cd_law_value ct_law_value), sl_law_value⟩)
    (c_law_value : PySem.W.codeIn K cd_law_value "_law_value" = true)
    (k_law_value : PySem.W.keepIn K (.ref f_law_value) = true)
    {f_law_handle : Addr} {oc_law_handle : Value} {od_law_handle an_law_handle : Option Addr} {sl_law_handle : Array (Option Value)} {kV_law_handle dc_law_handle pm_law_handle cd_law_handle ct_law_handle : Value}
    (a_law_handle : PySem.W.nsIn K mainGlobals "_law_handle" = some (some (.ref f_law_handle)))
    (l_law_handle : K.lookup f_law_handle = some ⟨oc_law_handle, od_law_handle, .func (PySem.W.fnOf "_law_handle" "_law_handle" (defArgs s_law_handle) (defBody s_law_handle) (defScope s_law_handle) .none kV_law_handle dc_law_handle pm_law_handle an_law_handle cd_law_handle ct_law_handle), sl_law_handle⟩)
    (c_law_handle : PySem.W.codeIn K cd_law_handle "_law_handle" = true)
    (k_law_handle : PySem.W.keepIn K (.ref f_law_handle) = true)
    {f_law_down : Addr} {oc_law_down : Value} {od_law_down an_law_down : Option Addr} {sl_law_down : Array (Option Value)} {kV_law_down dc_law_down pm_law_down cd_law_down ct_law_down : Value}
    (a_law_down : PySem.W.nsIn K mainGlobals "_law_down" = some (some (.ref f_law_down)))
    (l_law_down : K.lookup f_law_down = some ⟨oc_law_down, od_law_down, .func (PySem.W.fnOf "_law_down" "_law_down" (defArgs s_law_down) (defBody s_law_down) (defScope s_law_down) .none kV_law_down dc_law_down pm_law_down an_law_down cd_law_down ct_law_down), sl_law_down⟩)
    (c_law_down : PySem.W.codeIn K cd_law_down "_law_down" = true)
    (k_law_down : PySem.W.keepIn K (.ref f_law_down) = true)
    {f_law_up : Addr} {oc_law_up : Value} {od_law_up an_law_up : Option Addr} {sl_law_up : Array (Option Value)} {kV_law_up dc_law_up pm_law_up cd_law_up ct_law_up : Value}
    (a_law_up : PySem.W.nsIn K mainGlobals "_law_up" = some (some (.ref f_law_up)))
    (l_law_up : K.lookup f_law_up = some ⟨oc_law_up, od_law_up, .func (PySem.W.fnOf "_law_up" "_law_up" (defArgs s_law_up) (defBody s_law_up) (defScope s_law_up) .none kV_law_up dc_law_up pm_law_up an_law_up cd_law_up ct_law_up), sl_law_up⟩)
    (c_law_up : PySem.W.codeIn K cd_law_up "_law_up" = true)
    (k_law_up : PySem.W.keepIn K (.ref f_law_up) = true)
    {f_law_both : Addr} {oc_law_both : Value} {od_law_both an_law_both : Option Addr} {sl_law_both : Array (Option Value)} {kV_law_both dc_law_both pm_law_both cd_law_both ct_law_both : Value}
    (a_law_both : PySem.W.nsIn K mainGlobals "_law_both" = some (some (.ref f_law_both)))
    (l_law_both : K.lookup f_law_both = some ⟨oc_law_both, od_law_both, .func (PySem.W.fnOf "_law_both" "_law_both" (defArgs s_law_both) (defBody s_law_both) (defScope s_law_both) .none kV_law_both dc_law_both pm_law_both an_law_both cd_law_both ct_law_both), sl_law_both⟩)
    (c_law_both : PySem.W.codeIn K cd_law_both "_law_both" = true)
    (k_law_both : PySem.W.keepIn K (.ref f_law_both) = true)
    {f_law_same : Addr} {oc_law_same : Value} {od_law_same an_law_same : Option Addr} {sl_law_same : Array (Option Value)} {kV_law_same dc_law_same pm_law_same cd_law_same ct_law_same : Value}
    (a_law_same : PySem.W.nsIn K mainGlobals "_law_same" = some (some (.ref f_law_same)))
    (l_law_same : K.lookup f_law_same = some ⟨oc_law_same, od_law_same, .func (PySem.W.fnOf "_law_same" "_law_same" (defArgs s_law_same) (defBody s_law_same) (defScope s_law_same) .none kV_law_same dc_law_same pm_law_same an_law_same cd_law_same ct_law_same), sl_law_same⟩)
    (c_law_same : PySem.W.codeIn K cd_law_same "_law_same" = true)
    (k_law_same : PySem.W.keepIn K (.ref f_law_same) = true)
    {f_law_deed : Addr} {oc_law_deed : Value} {od_law_deed an_law_deed : Option Addr} {sl_law_deed : Array (Option Value)} {kV_law_deed dc_law_deed pm_law_deed cd_law_deed ct_law_deed : Value}
    (a_law_deed : PySem.W.nsIn K mainGlobals "_law_deed" = some (some (.ref f_law_deed)))
    (l_law_deed : K.lookup f_law_deed = some ⟨oc_law_deed, od_law_deed, .func (PySem.W.fnOf "_law_deed" "_law_deed" (defArgs s_law_deed) (defBody s_law_deed) (defScope s_law_deed) .none kV_law_deed dc_law_deed pm_law_deed an_law_deed cd_law_deed ct_law_deed), sl_law_deed⟩)
    (c_law_deed : PySem.W.codeIn K cd_law_deed "_law_deed" = true)
    (k_law_deed : PySem.W.keepIn K (.ref f_law_deed) = true)
    {f_law : Addr} {oc_law : Value} {od_law an_law : Option Addr} {sl_law : Array (Option Value)} {kV_law dc_law pm_law cd_law ct_law : Value}
    (a_law : PySem.W.nsIn K mainGlobals "law" = some (some (.ref f_law)))
    (l_law : K.lookup f_law = some ⟨oc_law, od_law, .func (PySem.W.fnOf "law" "law" (defArgs s_law) (defBody s_law) (defScope s_law) .none kV_law dc_law pm_law an_law cd_law ct_law), sl_law⟩)
    (c_law : PySem.W.codeIn K cd_law "law" = true)
    (k_law : PySem.W.keepIn K (.ref f_law) = true)
    {c_FIELDS : Addr} {es_FIELDS : Array DictEntry} {n_FIELDS : Nat} (a_FIELDS : PySem.W.nsIn K mainGlobals "FIELDS" = some (some (.ref c_FIELDS))) (l_FIELDS : K.lookup c_FIELDS = some ⟨.type "dict", none, .dict es_FIELDS n_FIELDS, #[]⟩) (lit_FIELDS : PySem.W.KeysLit w.params es_FIELDS.toList)
    {c_FIELDS_d : Addr} {o_FIELDS_d : Obj} (v_FIELDS_d : PySem.W.nsIn K c_FIELDS "d" = some (some (.ref c_FIELDS_d))) (l_FIELDS_d : K.lookup c_FIELDS_d = some o_FIELDS_d) (q_FIELDS_d : IsTupOf o_FIELDS_d [.int (21), .int (5), .int (0), .int (31)])
    {c_FIELDS_a : Addr} {o_FIELDS_a : Obj} (v_FIELDS_a : PySem.W.nsIn K c_FIELDS "a" = some (some (.ref c_FIELDS_a))) (l_FIELDS_a : K.lookup c_FIELDS_a = some o_FIELDS_a) (q_FIELDS_a : IsTupOf o_FIELDS_a [.int (16), .int (5), .int (0), .int (31)])
    {c_FIELDS_reg : Addr} {o_FIELDS_reg : Obj} (v_FIELDS_reg : PySem.W.nsIn K c_FIELDS "reg" = some (some (.ref c_FIELDS_reg))) (l_FIELDS_reg : K.lookup c_FIELDS_reg = some o_FIELDS_reg) (q_FIELDS_reg : IsTupOf o_FIELDS_reg [.int (0), .int (15), .int (0), .int (31)])
    {c_FIELDS_int : Addr} {o_FIELDS_int : Obj} (v_FIELDS_int : PySem.W.nsIn K c_FIELDS "int" = some (some (.ref c_FIELDS_int))) (l_FIELDS_int : K.lookup c_FIELDS_int = some o_FIELDS_int) (q_FIELDS_int : IsTupOf o_FIELDS_int [.int (0), .int (15), .int (-16384), .int (16383)])
    {c_FIELDS_part : Addr} {o_FIELDS_part : Obj} (v_FIELDS_part : PySem.W.nsIn K c_FIELDS "part" = some (some (.ref c_FIELDS_part))) (l_FIELDS_part : K.lookup c_FIELDS_part = some o_FIELDS_part) (q_FIELDS_part : IsTupOf o_FIELDS_part [.int (0), .int (15), .int (0), .int (2047)])
    {c_FIELDS_far : Addr} {o_FIELDS_far : Obj} (v_FIELDS_far : PySem.W.nsIn K c_FIELDS "far" = some (some (.ref c_FIELDS_far))) (l_FIELDS_far : K.lookup c_FIELDS_far = some o_FIELDS_far) (q_FIELDS_far : IsTupOf o_FIELDS_far [.int (0), .int (21), .int (-1048576), .int (1048575)])
    {c_FIELDS_distance : Addr} {o_FIELDS_distance : Obj} (v_FIELDS_distance : PySem.W.nsIn K c_FIELDS "distance" = some (some (.ref c_FIELDS_distance))) (l_FIELDS_distance : K.lookup c_FIELDS_distance = some o_FIELDS_distance) (q_FIELDS_distance : IsTupOf o_FIELDS_distance [.int (0), .int (26), .int (-33554432), .int (33554431)])
    {c_FIELDS_number : Addr} {o_FIELDS_number : Obj} (v_FIELDS_number : PySem.W.nsIn K c_FIELDS "number" = some (some (.ref c_FIELDS_number))) (l_FIELDS_number : K.lookup c_FIELDS_number = some o_FIELDS_number) (q_FIELDS_number : IsTupOf o_FIELDS_number [.int (0), .int (26), .int (0), .int (67108863)])
    {t_FIRST_IN : Tok} (a_FIRST_IN : PySem.W.nsIn K mainGlobals "FIRST_IN" = some (some (.int (24) t_FIRST_IN)))
    {t_FIRST_LOCAL : Tok} (a_FIRST_LOCAL : PySem.W.nsIn K mainGlobals "FIRST_LOCAL" = some (some (.int (16) t_FIRST_LOCAL)))
    {t_FIRST_OUT : Tok} (a_FIRST_OUT : PySem.W.nsIn K mainGlobals "FIRST_OUT" = some (some (.int (8) t_FIRST_OUT)))
    {t_FLAG : Tok} (a_FLAG : PySem.W.nsIn K mainGlobals "FLAG" = some (some (.int (32768) t_FLAG)))
    {c_FORMS : Addr} {es_FORMS : Array DictEntry} {n_FORMS : Nat} (a_FORMS : PySem.W.nsIn K mainGlobals "FORMS" = some (some (.ref c_FORMS))) (l_FORMS : K.lookup c_FORMS = some ⟨.type "dict", none, .dict es_FORMS n_FORMS, #[]⟩) (lit_FORMS : PySem.W.KeysLit w.params es_FORMS.toList)
    {c_FORMS_halt : Addr} {o_FORMS_halt : Obj} (v_FORMS_halt : PySem.W.nsIn K c_FORMS "halt" = some (some (.ref c_FORMS_halt))) (l_FORMS_halt : K.lookup c_FORMS_halt = some o_FORMS_halt) (q_FORMS_halt : IsTupOf o_FORMS_halt [])
    {c_FORMS_add : Addr} {o_FORMS_add : Obj} (v_FORMS_add : PySem.W.nsIn K c_FORMS "add" = some (some (.ref c_FORMS_add))) (l_FORMS_add : K.lookup c_FORMS_add = some o_FORMS_add) (q_FORMS_add : IsTupOf o_FORMS_add [.str "d", .str "a", .str "source"])
    {c_FORMS_sub : Addr} {o_FORMS_sub : Obj} (v_FORMS_sub : PySem.W.nsIn K c_FORMS "sub" = some (some (.ref c_FORMS_sub))) (l_FORMS_sub : K.lookup c_FORMS_sub = some o_FORMS_sub) (q_FORMS_sub : IsTupOf o_FORMS_sub [.str "d", .str "a", .str "source"])
    {c_FORMS_mul : Addr} {o_FORMS_mul : Obj} (v_FORMS_mul : PySem.W.nsIn K c_FORMS "mul" = some (some (.ref c_FORMS_mul))) (l_FORMS_mul : K.lookup c_FORMS_mul = some o_FORMS_mul) (q_FORMS_mul : IsTupOf o_FORMS_mul [.str "d", .str "a", .str "source"])
    {c_FORMS_div : Addr} {o_FORMS_div : Obj} (v_FORMS_div : PySem.W.nsIn K c_FORMS "div" = some (some (.ref c_FORMS_div))) (l_FORMS_div : K.lookup c_FORMS_div = some o_FORMS_div) (q_FORMS_div : IsTupOf o_FORMS_div [.str "d", .str "a", .str "source"])
    {c_FORMS_mod : Addr} {o_FORMS_mod : Obj} (v_FORMS_mod : PySem.W.nsIn K c_FORMS "mod" = some (some (.ref c_FORMS_mod))) (l_FORMS_mod : K.lookup c_FORMS_mod = some o_FORMS_mod) (q_FORMS_mod : IsTupOf o_FORMS_mod [.str "d", .str "a", .str "source"])
    {c_FORMS_rem : Addr} {o_FORMS_rem : Obj} (v_FORMS_rem : PySem.W.nsIn K c_FORMS "rem" = some (some (.ref c_FORMS_rem))) (l_FORMS_rem : K.lookup c_FORMS_rem = some o_FORMS_rem) (q_FORMS_rem : IsTupOf o_FORMS_rem [.str "d", .str "a", .str "source"])
    {c_FORMS_less : Addr} {o_FORMS_less : Obj} (v_FORMS_less : PySem.W.nsIn K c_FORMS "less" = some (some (.ref c_FORMS_less))) (l_FORMS_less : K.lookup c_FORMS_less = some o_FORMS_less) (q_FORMS_less : IsTupOf o_FORMS_less [.str "d", .str "a", .str "source"])
    {c_FORMS_equal : Addr} {o_FORMS_equal : Obj} (v_FORMS_equal : PySem.W.nsIn K c_FORMS "equal" = some (some (.ref c_FORMS_equal))) (l_FORMS_equal : K.lookup c_FORMS_equal = some o_FORMS_equal) (q_FORMS_equal : IsTupOf o_FORMS_equal [.str "d", .str "a", .str "source"])
    {c_FORMS_high : Addr} {o_FORMS_high : Obj} (v_FORMS_high : PySem.W.nsIn K c_FORMS "high" = some (some (.ref c_FORMS_high))) (l_FORMS_high : K.lookup c_FORMS_high = some o_FORMS_high) (q_FORMS_high : IsTupOf o_FORMS_high [.str "d", .str "far"])
    {c_FORMS_low : Addr} {o_FORMS_low : Obj} (v_FORMS_low : PySem.W.nsIn K c_FORMS "low" = some (some (.ref c_FORMS_low))) (l_FORMS_low : K.lookup c_FORMS_low = some o_FORMS_low) (q_FORMS_low : IsTupOf o_FORMS_low [.str "d", .str "a", .str "part"])
    {c_FORMS_load : Addr} {o_FORMS_load : Obj} (v_FORMS_load : PySem.W.nsIn K c_FORMS "load" = some (some (.ref c_FORMS_load))) (l_FORMS_load : K.lookup c_FORMS_load = some o_FORMS_load) (q_FORMS_load : IsTupOf o_FORMS_load [.str "d", .str "a", .str "source"])
    {c_FORMS_store : Addr} {o_FORMS_store : Obj} (v_FORMS_store : PySem.W.nsIn K c_FORMS "store" = some (some (.ref c_FORMS_store))) (l_FORMS_store : K.lookup c_FORMS_store = some o_FORMS_store) (q_FORMS_store : IsTupOf o_FORMS_store [.str "d", .str "a", .str "source"])
    {c_FORMS_jump : Addr} {o_FORMS_jump : Obj} (v_FORMS_jump : PySem.W.nsIn K c_FORMS "jump" = some (some (.ref c_FORMS_jump))) (l_FORMS_jump : K.lookup c_FORMS_jump = some o_FORMS_jump) (q_FORMS_jump : IsTupOf o_FORMS_jump [.str "distance"])
    {c_FORMS_branch : Addr} {o_FORMS_branch : Obj} (v_FORMS_branch : PySem.W.nsIn K c_FORMS "branch" = some (some (.ref c_FORMS_branch))) (l_FORMS_branch : K.lookup c_FORMS_branch = some o_FORMS_branch) (q_FORMS_branch : IsTupOf o_FORMS_branch [.str "d", .str "far"])
    {c_FORMS_call : Addr} {o_FORMS_call : Obj} (v_FORMS_call : PySem.W.nsIn K c_FORMS "call" = some (some (.ref c_FORMS_call))) (l_FORMS_call : K.lookup c_FORMS_call = some o_FORMS_call) (q_FORMS_call : IsTupOf o_FORMS_call [.str "number"])
    {c_FORMS_save : Addr} {o_FORMS_save : Obj} (v_FORMS_save : PySem.W.nsIn K c_FORMS "save" = some (some (.ref c_FORMS_save))) (l_FORMS_save : K.lookup c_FORMS_save = some o_FORMS_save) (q_FORMS_save : IsTupOf o_FORMS_save [.str "d", .str "a", .str "source"])
    {c_FORMS_restore : Addr} {o_FORMS_restore : Obj} (v_FORMS_restore : PySem.W.nsIn K c_FORMS "restore" = some (some (.ref c_FORMS_restore))) (l_FORMS_restore : K.lookup c_FORMS_restore = some o_FORMS_restore) (q_FORMS_restore : IsTupOf o_FORMS_restore [])
    {c_FORMS_back : Addr} {o_FORMS_back : Obj} (v_FORMS_back : PySem.W.nsIn K c_FORMS "back" = some (some (.ref c_FORMS_back))) (l_FORMS_back : K.lookup c_FORMS_back = some o_FORMS_back) (q_FORMS_back : IsTupOf o_FORMS_back [])
    {c_FORMS_raise : Addr} {o_FORMS_raise : Obj} (v_FORMS_raise : PySem.W.nsIn K c_FORMS "raise" = some (some (.ref c_FORMS_raise))) (l_FORMS_raise : K.lookup c_FORMS_raise = some o_FORMS_raise) (q_FORMS_raise : IsTupOf o_FORMS_raise [.str "number"])
    {c_FORMS_again : Addr} {o_FORMS_again : Obj} (v_FORMS_again : PySem.W.nsIn K c_FORMS "again" = some (some (.ref c_FORMS_again))) (l_FORMS_again : K.lookup c_FORMS_again = some o_FORMS_again) (q_FORMS_again : IsTupOf o_FORMS_again [.str "a", .str "source"])
    {c_FORMS_tick : Addr} {o_FORMS_tick : Obj} (v_FORMS_tick : PySem.W.nsIn K c_FORMS "tick" = some (some (.ref c_FORMS_tick))) (l_FORMS_tick : K.lookup c_FORMS_tick = some o_FORMS_tick) (q_FORMS_tick : IsTupOf o_FORMS_tick [])
    {c_FORMS_put : Addr} {o_FORMS_put : Obj} (v_FORMS_put : PySem.W.nsIn K c_FORMS "put" = some (some (.ref c_FORMS_put))) (l_FORMS_put : K.lookup c_FORMS_put = some o_FORMS_put) (q_FORMS_put : IsTupOf o_FORMS_put [.str "source"])
    {c_FORMS_get : Addr} {o_FORMS_get : Obj} (v_FORMS_get : PySem.W.nsIn K c_FORMS "get" = some (some (.ref c_FORMS_get))) (l_FORMS_get : K.lookup c_FORMS_get = some o_FORMS_get) (q_FORMS_get : IsTupOf o_FORMS_get [.str "d"])
    {c_FORMS_below : Addr} {o_FORMS_below : Obj} (v_FORMS_below : PySem.W.nsIn K c_FORMS "below" = some (some (.ref c_FORMS_below))) (l_FORMS_below : K.lookup c_FORMS_below = some o_FORMS_below) (q_FORMS_below : IsTupOf o_FORMS_below [.str "a", .str "source"])
    {c_FORMS_above : Addr} {o_FORMS_above : Obj} (v_FORMS_above : PySem.W.nsIn K c_FORMS "above" = some (some (.ref c_FORMS_above))) (l_FORMS_above : K.lookup c_FORMS_above = some o_FORMS_above) (q_FORMS_above : IsTupOf o_FORMS_above [.str "a", .str "source"])
    {c_FORMS_bar : Addr} {o_FORMS_bar : Obj} (v_FORMS_bar : PySem.W.nsIn K c_FORMS "bar" = some (some (.ref c_FORMS_bar))) (l_FORMS_bar : K.lookup c_FORMS_bar = some o_FORMS_bar) (q_FORMS_bar : IsTupOf o_FORMS_bar [.str "d"])
    {c_FORMS_setbar : Addr} {o_FORMS_setbar : Obj} (v_FORMS_setbar : PySem.W.nsIn K c_FORMS "setbar" = some (some (.ref c_FORMS_setbar))) (l_FORMS_setbar : K.lookup c_FORMS_setbar = some o_FORMS_setbar) (q_FORMS_setbar : IsTupOf o_FORMS_setbar [.str "source"])
    {c_FORMS_retry : Addr} {o_FORMS_retry : Obj} (v_FORMS_retry : PySem.W.nsIn K c_FORMS "retry" = some (some (.ref c_FORMS_retry))) (l_FORMS_retry : K.lookup c_FORMS_retry = some o_FORMS_retry) (q_FORMS_retry : IsTupOf o_FORMS_retry [])
    {c_NAMES : Addr} {o_NAMES : Obj} (a_NAMES : PySem.W.nsIn K mainGlobals "NAMES" = some (some (.ref c_NAMES))) (l_NAMES : K.lookup c_NAMES = some o_NAMES) (q_NAMES : IsTupOf o_NAMES [.str "halt", .str "add", .str "sub", .str "mul", .str "div", .str "mod", .str "rem", .str "less", .str "equal", .str "high", .str "low", .str "load", .str "store", .str "jump", .str "branch", .str "call", .str "save", .str "restore", .str "back", .str "raise", .str "again", .str "tick", .str "put", .str "get", .str "below", .str "above", .str "bar", .str "setbar", .str "retry"])
    (dn_NAMES : o_NAMES.dict = none)
    {t_NAME_SHIFT : Tok} (a_NAME_SHIFT : PySem.W.nsIn K mainGlobals "NAME_SHIFT" = some (some (.int (26) t_NAME_SHIFT)))
    {t_POINTER : Tok} (a_POINTER : PySem.W.nsIn K mainGlobals "POINTER" = some (some (.int (14) t_POINTER)))
    {t_SAVED : Tok} (a_SAVED : PySem.W.nsIn K mainGlobals "SAVED" = some (some (.int (16) t_SAVED)))
    {t_STACK : Tok} (a_STACK : PySem.W.nsIn K mainGlobals "STACK" = some (some (.int (14) t_STACK)))
    (z_bool : PySem.W.nsIn K mainGlobals "bool" = some none)
    (z_int : PySem.W.nsIn K mainGlobals "int" = some none)
    (z_isinstance : PySem.W.nsIn K mainGlobals "isinstance" = some none)
    (z_len : PySem.W.nsIn K mainGlobals "len" = some none)
    (z_range : PySem.W.nsIn K mainGlobals "range" = some none)
    (z_tuple : PySem.W.nsIn K mainGlobals "tuple" = some none)
    (z_zip : PySem.W.nsIn K mainGlobals "zip" = some none) :
    ∃ fd : FuncData, (∀ (s : Shared) (v : Value), BindsTo s fd ⟨[v], []⟩ [("script", v)]) ∧ ∀ base : Heap, K.In base → base.Ns mainGlobals mg → FnOk l.prog w K mg base CX0 7 fa fd ["script"] (spLaw K) := by
  have e := hfa.symm.trans (PySem.W.mg_of X G a_law)
  cases e
  let a : Ad := { f_encode := f_encode, d_encode := PySem.W.fnOf "encode" "encode" (defArgs s_encode) (defBody s_encode) (defScope s_encode) .none kV_encode dc_encode pm_encode an_encode cd_encode ct_encode, f_bits_of := f_bits_of, d_bits_of := PySem.W.fnOf "_bits_of" "_bits_of" (defArgs s_bits_of) (defBody s_bits_of) (defScope s_bits_of) .none kV_bits_of dc_bits_of pm_bits_of an_bits_of cd_bits_of ct_bits_of, f_trap_code := f_trap_code, d_trap_code := PySem.W.fnOf "trap_code" "trap_code" (defArgs s_trap_code) (defBody s_trap_code) (defScope s_trap_code) .none kV_trap_code dc_trap_code pm_trap_code an_trap_code cd_trap_code ct_trap_code, f_spill := f_spill, d_spill := PySem.W.fnOf "_spill" "_spill" (defArgs s_spill) (defBody s_spill) (defScope s_spill) .none kV_spill dc_spill pm_spill an_spill cd_spill ct_spill, f_fill := f_fill, d_fill := PySem.W.fnOf "_fill" "_fill" (defArgs s_fill) (defBody s_fill) (defScope s_fill) .none kV_fill dc_fill pm_fill an_fill cd_fill ct_fill, f_moves := f_moves, d_moves := PySem.W.fnOf "_moves" "_moves" (defArgs s_moves) (defBody s_moves) (defScope s_moves) .none kV_moves dc_moves pm_moves an_moves cd_moves ct_moves, f_Banks___init__ := f_Banks___init__, d_Banks___init__ := PySem.W.fnOf "__init__" "Banks.__init__" (defArgs s_Banks___init__) (defBody s_Banks___init__) (defScope s_Banks___init__) .none kV_Banks___init__ dc_Banks___init__ pm_Banks___init__ an_Banks___init__ cd_Banks___init__ ct_Banks___init__, f_Banks_read := f_Banks_read, d_Banks_read := PySem.W.fnOf "read" "Banks.read" (defArgs s_Banks_read) (defBody s_Banks_read) (defScope s_Banks_read) .none kV_Banks_read dc_Banks_read pm_Banks_read an_Banks_read cd_Banks_read ct_Banks_read, f_Banks_write := f_Banks_write, d_Banks_write := PySem.W.fnOf "write" "Banks.write" (defArgs s_Banks_write) (defBody s_Banks_write) (defScope s_Banks_write) .none kV_Banks_write dc_Banks_write pm_Banks_write an_Banks_write cd_Banks_write ct_Banks_write, f_Banks_shift_down := f_Banks_shift_down, d_Banks_shift_down := PySem.W.fnOf "shift_down" "Banks.shift_down" (defArgs s_Banks_shift_down) (defBody s_Banks_shift_down) (defScope s_Banks_shift_down) .none kV_Banks_shift_down dc_Banks_shift_down pm_Banks_shift_down an_Banks_shift_down cd_Banks_shift_down ct_Banks_shift_down, f_Banks_shift_up := f_Banks_shift_up, d_Banks_shift_up := PySem.W.fnOf "shift_up" "Banks.shift_up" (defArgs s_Banks_shift_up) (defBody s_Banks_shift_up) (defScope s_Banks_shift_up) .none kV_Banks_shift_up dc_Banks_shift_up pm_Banks_shift_up an_Banks_shift_up cd_Banks_shift_up ct_Banks_shift_up, f_Banks_blocked_down := f_Banks_blocked_down, d_Banks_blocked_down := PySem.W.fnOf "blocked_down" "Banks.blocked_down" (defArgs s_Banks_blocked_down) (defBody s_Banks_blocked_down) (defScope s_Banks_blocked_down) .none kV_Banks_blocked_down dc_Banks_blocked_down pm_Banks_blocked_down an_Banks_blocked_down cd_Banks_blocked_down ct_Banks_blocked_down, f_Banks_blocked_up := f_Banks_blocked_up, d_Banks_blocked_up := PySem.W.fnOf "blocked_up" "Banks.blocked_up" (defArgs s_Banks_blocked_up) (defBody s_Banks_blocked_up) (defScope s_Banks_blocked_up) .none kV_Banks_blocked_up dc_Banks_blocked_up pm_Banks_blocked_up an_Banks_blocked_up cd_Banks_blocked_up ct_Banks_blocked_up, f_Banks_set_bar := f_Banks_set_bar, d_Banks_set_bar := PySem.W.fnOf "set_bar" "Banks.set_bar" (defArgs s_Banks_set_bar) (defBody s_Banks_set_bar) (defScope s_Banks_set_bar) .none kV_Banks_set_bar dc_Banks_set_bar pm_Banks_set_bar an_Banks_set_bar cd_Banks_set_bar ct_Banks_set_bar, f_Banks_trap_down := f_Banks_trap_down, d_Banks_trap_down := PySem.W.fnOf "trap_down" "Banks.trap_down" (defArgs s_Banks_trap_down) (defBody s_Banks_trap_down) (defScope s_Banks_trap_down) .none kV_Banks_trap_down dc_Banks_trap_down pm_Banks_trap_down an_Banks_trap_down cd_Banks_trap_down ct_Banks_trap_down, f_Banks_trap_up := f_Banks_trap_up, d_Banks_trap_up := PySem.W.fnOf "trap_up" "Banks.trap_up" (defArgs s_Banks_trap_up) (defBody s_Banks_trap_up) (defScope s_Banks_trap_up) .none kV_Banks_trap_up dc_Banks_trap_up pm_Banks_trap_up an_Banks_trap_up cd_Banks_trap_up ct_Banks_trap_up, f_Banks_leave_trap := f_Banks_leave_trap, d_Banks_leave_trap := PySem.W.fnOf "leave_trap" "Banks.leave_trap" (defArgs s_Banks_leave_trap) (defBody s_Banks_leave_trap) (defScope s_Banks_leave_trap) .none kV_Banks_leave_trap dc_Banks_leave_trap pm_Banks_leave_trap an_Banks_leave_trap cd_Banks_leave_trap ct_Banks_leave_trap, f_Banks__begin_trap := f_Banks__begin_trap, d_Banks__begin_trap := PySem.W.fnOf "_begin_trap" "Banks._begin_trap" (defArgs s_Banks__begin_trap) (defBody s_Banks__begin_trap) (defScope s_Banks__begin_trap) .none kV_Banks__begin_trap dc_Banks__begin_trap pm_Banks__begin_trap an_Banks__begin_trap cd_Banks__begin_trap ct_Banks__begin_trap, f_Banks__go_down := f_Banks__go_down, d_Banks__go_down := PySem.W.fnOf "_go_down" "Banks._go_down" (defArgs s_Banks__go_down) (defBody s_Banks__go_down) (defScope s_Banks__go_down) .none kV_Banks__go_down dc_Banks__go_down pm_Banks__go_down an_Banks__go_down cd_Banks__go_down ct_Banks__go_down, f_Banks__window_below := f_Banks__window_below, d_Banks__window_below := PySem.W.fnOf "_window_below" "Banks._window_below" (defArgs s_Banks__window_below) (defBody s_Banks__window_below) (defScope s_Banks__window_below) .none kV_Banks__window_below dc_Banks__window_below pm_Banks__window_below an_Banks__window_below cd_Banks__window_below ct_Banks__window_below, f_Banks__window_above := f_Banks__window_above, d_Banks__window_above := PySem.W.fnOf "_window_above" "Banks._window_above" (defArgs s_Banks__window_above) (defBody s_Banks__window_above) (defScope s_Banks__window_above) .none kV_Banks__window_above dc_Banks__window_above pm_Banks__window_above an_Banks__window_above cd_Banks__window_above ct_Banks__window_above, f_empty_view := f_empty_view, d_empty_view := PySem.W.fnOf "empty_view" "empty_view" (defArgs s_empty_view) (defBody s_empty_view) (defScope s_empty_view) .none kV_empty_view dc_empty_view pm_empty_view an_empty_view cd_empty_view ct_empty_view, f_locals_and_ins := f_locals_and_ins, d_locals_and_ins := PySem.W.fnOf "locals_and_ins" "locals_and_ins" (defArgs s_locals_and_ins) (defBody s_locals_and_ins) (defScope s_locals_and_ins) .none kV_locals_and_ins dc_locals_and_ins pm_locals_and_ins an_locals_and_ins cd_locals_and_ins ct_locals_and_ins, f_view_below := f_view_below, d_view_below := PySem.W.fnOf "view_below" "view_below" (defArgs s_view_below) (defBody s_view_below) (defScope s_view_below) .none kV_view_below dc_view_below pm_view_below an_view_below cd_view_below ct_view_below, f_view_above := f_view_above, d_view_above := PySem.W.fnOf "view_above" "view_above" (defArgs s_view_above) (defBody s_view_above) (defScope s_view_above) .none kV_view_above dc_view_above pm_view_above an_view_above cd_view_above ct_view_above, f_Ring___init__ := f_Ring___init__, d_Ring___init__ := PySem.W.fnOf "__init__" "Ring.__init__" (defArgs s_Ring___init__) (defBody s_Ring___init__) (defScope s_Ring___init__) .none kV_Ring___init__ dc_Ring___init__ pm_Ring___init__ an_Ring___init__ cd_Ring___init__ ct_Ring___init__, f_Ring_read := f_Ring_read, d_Ring_read := PySem.W.fnOf "read" "Ring.read" (defArgs s_Ring_read) (defBody s_Ring_read) (defScope s_Ring_read) .none kV_Ring_read dc_Ring_read pm_Ring_read an_Ring_read cd_Ring_read ct_Ring_read, f_Ring_write := f_Ring_write, d_Ring_write := PySem.W.fnOf "write" "Ring.write" (defArgs s_Ring_write) (defBody s_Ring_write) (defScope s_Ring_write) .none kV_Ring_write dc_Ring_write pm_Ring_write an_Ring_write cd_Ring_write ct_Ring_write, f_Ring_shift_down := f_Ring_shift_down, d_Ring_shift_down := PySem.W.fnOf "shift_down" "Ring.shift_down" (defArgs s_Ring_shift_down) (defBody s_Ring_shift_down) (defScope s_Ring_shift_down) .none kV_Ring_shift_down dc_Ring_shift_down pm_Ring_shift_down an_Ring_shift_down cd_Ring_shift_down ct_Ring_shift_down, f_Ring_shift_up := f_Ring_shift_up, d_Ring_shift_up := PySem.W.fnOf "shift_up" "Ring.shift_up" (defArgs s_Ring_shift_up) (defBody s_Ring_shift_up) (defScope s_Ring_shift_up) .none kV_Ring_shift_up dc_Ring_shift_up pm_Ring_shift_up an_Ring_shift_up cd_Ring_shift_up ct_Ring_shift_up, f_Ring_blocked_down := f_Ring_blocked_down, d_Ring_blocked_down := PySem.W.fnOf "blocked_down" "Ring.blocked_down" (defArgs s_Ring_blocked_down) (defBody s_Ring_blocked_down) (defScope s_Ring_blocked_down) .none kV_Ring_blocked_down dc_Ring_blocked_down pm_Ring_blocked_down an_Ring_blocked_down cd_Ring_blocked_down ct_Ring_blocked_down, f_Ring_blocked_up := f_Ring_blocked_up, d_Ring_blocked_up := PySem.W.fnOf "blocked_up" "Ring.blocked_up" (defArgs s_Ring_blocked_up) (defBody s_Ring_blocked_up) (defScope s_Ring_blocked_up) .none kV_Ring_blocked_up dc_Ring_blocked_up pm_Ring_blocked_up an_Ring_blocked_up cd_Ring_blocked_up ct_Ring_blocked_up, f_Ring__spill := f_Ring__spill, d_Ring__spill := PySem.W.fnOf "_spill" "Ring._spill" (defArgs s_Ring__spill) (defBody s_Ring__spill) (defScope s_Ring__spill) .none kV_Ring__spill dc_Ring__spill pm_Ring__spill an_Ring__spill cd_Ring__spill ct_Ring__spill, f_Ring__fill := f_Ring__fill, d_Ring__fill := PySem.W.fnOf "_fill" "Ring._fill" (defArgs s_Ring__fill) (defBody s_Ring__fill) (defScope s_Ring__fill) .none kV_Ring__fill dc_Ring__fill pm_Ring__fill an_Ring__fill cd_Ring__fill ct_Ring__fill, f_Ring__save_area := f_Ring__save_area, d_Ring__save_area := PySem.W.fnOf "_save_area" "Ring._save_area" (defArgs s_Ring__save_area) (defBody s_Ring__save_area) (defScope s_Ring__save_area) .none kV_Ring__save_area dc_Ring__save_area pm_Ring__save_area an_Ring__save_area cd_Ring__save_area ct_Ring__save_area, f_law_pick := f_law_pick, d_law_pick := PySem.W.fnOf "_law_pick" "_law_pick" (defArgs s_law_pick) (defBody s_law_pick) (defScope s_law_pick) .none kV_law_pick dc_law_pick pm_law_pick an_law_pick cd_law_pick ct_law_pick, f_law_is_integer := f_law_is_integer, d_law_is_integer := PySem.W.fnOf "_law_is_integer" "_law_is_integer" (defArgs s_law_is_integer) (defBody s_law_is_integer) (defScope s_law_is_integer) .none kV_law_is_integer dc_law_is_integer pm_law_is_integer an_law_is_integer cd_law_is_integer ct_law_is_integer, f_law_word := f_law_word, d_law_word := PySem.W.fnOf "_law_word" "_law_word" (defArgs s_law_word) (defBody s_law_word) (defScope s_law_word) .none kV_law_word dc_law_word pm_law_word an_law_word cd_law_word ct_law_word, f_law_spill := f_law_spill, d_law_spill := PySem.W.fnOf "_law_spill" "_law_spill" (defArgs s_law_spill) (defBody s_law_spill) (defScope s_law_spill) .none kV_law_spill dc_law_spill pm_law_spill an_law_spill cd_law_spill ct_law_spill, f_law_fill := f_law_fill, d_law_fill := PySem.W.fnOf "_law_fill" "_law_fill" (defArgs s_law_fill) (defBody s_law_fill) (defScope s_law_fill) .none kV_law_fill dc_law_fill pm_law_fill an_law_fill cd_law_fill ct_law_fill, f_law_words := f_law_words, d_law_words := PySem.W.fnOf "_law_words" "_law_words" (defArgs s_law_words) (defBody s_law_words) (defScope s_law_words) .none kV_law_words dc_law_words pm_law_words an_law_words cd_law_words ct_law_words, f_law_value := f_law_value, d_law_value := PySem.W.fnOf "_law_value" "_law_value" (defArgs s_law_value) (defBody s_law_value) (defScope s_law_value) .none kV_law_value dc_law_value pm_law_value an_law_value cd_law_value ct_law_value, f_law_handle := f_law_handle, d_law_handle := PySem.W.fnOf "_law_handle" "_law_handle" (defArgs s_law_handle) (defBody s_law_handle) (defScope s_law_handle) .none kV_law_handle dc_law_handle pm_law_handle an_law_handle cd_law_handle ct_law_handle, f_law_down := f_law_down, d_law_down := PySem.W.fnOf "_law_down" "_law_down" (defArgs s_law_down) (defBody s_law_down) (defScope s_law_down) .none kV_law_down dc_law_down pm_law_down an_law_down cd_law_down ct_law_down, f_law_up := f_law_up, d_law_up := PySem.W.fnOf "_law_up" "_law_up" (defArgs s_law_up) (defBody s_law_up) (defScope s_law_up) .none kV_law_up dc_law_up pm_law_up an_law_up cd_law_up ct_law_up, f_law_both := f_law_both, d_law_both := PySem.W.fnOf "_law_both" "_law_both" (defArgs s_law_both) (defBody s_law_both) (defScope s_law_both) .none kV_law_both dc_law_both pm_law_both an_law_both cd_law_both ct_law_both, f_law_same := f_law_same, d_law_same := PySem.W.fnOf "_law_same" "_law_same" (defArgs s_law_same) (defBody s_law_same) (defScope s_law_same) .none kV_law_same dc_law_same pm_law_same an_law_same cd_law_same ct_law_same, f_law_deed := f_law_deed, d_law_deed := PySem.W.fnOf "_law_deed" "_law_deed" (defArgs s_law_deed) (defBody s_law_deed) (defScope s_law_deed) .none kV_law_deed dc_law_deed pm_law_deed an_law_deed cd_law_deed ct_law_deed, f_law := fa, d_law := PySem.W.fnOf "law" "law" (defArgs s_law) (defBody s_law) (defScope s_law) .none kV_law dc_law pm_law an_law cd_law ct_law, c_FIELDS := c_FIELDS, c_FIELDS_d := c_FIELDS_d, c_FIELDS_a := c_FIELDS_a, c_FIELDS_reg := c_FIELDS_reg, c_FIELDS_int := c_FIELDS_int, c_FIELDS_part := c_FIELDS_part, c_FIELDS_far := c_FIELDS_far, c_FIELDS_distance := c_FIELDS_distance, c_FIELDS_number := c_FIELDS_number, t_FIRST_IN := t_FIRST_IN, t_FIRST_LOCAL := t_FIRST_LOCAL, t_FIRST_OUT := t_FIRST_OUT, t_FLAG := t_FLAG, c_FORMS := c_FORMS, c_FORMS_halt := c_FORMS_halt, c_FORMS_add := c_FORMS_add, c_FORMS_sub := c_FORMS_sub, c_FORMS_mul := c_FORMS_mul, c_FORMS_div := c_FORMS_div, c_FORMS_mod := c_FORMS_mod, c_FORMS_rem := c_FORMS_rem, c_FORMS_less := c_FORMS_less, c_FORMS_equal := c_FORMS_equal, c_FORMS_high := c_FORMS_high, c_FORMS_low := c_FORMS_low, c_FORMS_load := c_FORMS_load, c_FORMS_store := c_FORMS_store, c_FORMS_jump := c_FORMS_jump, c_FORMS_branch := c_FORMS_branch, c_FORMS_call := c_FORMS_call, c_FORMS_save := c_FORMS_save, c_FORMS_restore := c_FORMS_restore, c_FORMS_back := c_FORMS_back, c_FORMS_raise := c_FORMS_raise, c_FORMS_again := c_FORMS_again, c_FORMS_tick := c_FORMS_tick, c_FORMS_put := c_FORMS_put, c_FORMS_get := c_FORMS_get, c_FORMS_below := c_FORMS_below, c_FORMS_above := c_FORMS_above, c_FORMS_bar := c_FORMS_bar, c_FORMS_setbar := c_FORMS_setbar, c_FORMS_retry := c_FORMS_retry, c_NAMES := c_NAMES, t_NAME_SHIFT := t_NAME_SHIFT, t_POINTER := t_POINTER, t_SAVED := t_SAVED, t_STACK := t_STACK, C_Ring := C_Ring, C_Banks := C_Banks, C_Fault := C_Fault, C_AdaError := C_AdaError, C_ImageError := C_ImageError }
  have T : Txt w K mg a := {
    g_encode := PySem.W.mg_of X G a_encode,
    F_encode := fun_mk (st := s_encode) l_encode c_encode k_encode,
    k_encode := k_encode,
    bd_encode := (fun_mk (st := s_encode) l_encode c_encode k_encode).binds (ps := ["instruction"]) fun _ _ _ _ _ _ us hl => match us, hl with | [_], _ => rfl,
    g__bits_of := PySem.W.mg_of X G a_bits_of,
    F__bits_of := fun_mk (st := s_bits_of) l_bits_of c_bits_of k_bits_of,
    k__bits_of := k_bits_of,
    bd__bits_of := (fun_mk (st := s_bits_of) l_bits_of c_bits_of k_bits_of).binds (ps := ["field", "part"]) fun _ _ _ _ _ _ us hl => match us, hl with | [_, _], _ => rfl,
    g_trap_code := PySem.W.mg_of X G a_trap_code,
    F_trap_code := fun_mk (st := s_trap_code) l_trap_code c_trap_code k_trap_code,
    k_trap_code := k_trap_code,
    bd_trap_code := (fun_mk (st := s_trap_code) l_trap_code c_trap_code k_trap_code).binds (ps := ["windows"]) fun _ _ _ _ _ _ us hl => match us, hl with | [_], _ => rfl,
    g__spill := PySem.W.mg_of X G a_spill,
    F__spill := fun_mk (st := s_spill) l_spill c_spill k_spill,
    k__spill := k_spill,
    bd__spill := (fun_mk (st := s_spill) l_spill c_spill k_spill).binds (ps := ["windows"]) fun _ _ _ _ _ _ us hl => match us, hl with | [_], _ => rfl,
    g__fill := PySem.W.mg_of X G a_fill,
    F__fill := fun_mk (st := s_fill) l_fill c_fill k_fill,
    k__fill := k_fill,
    bd__fill := (fun_mk (st := s_fill) l_fill c_fill k_fill).binds (ps := ["windows"]) fun _ _ _ _ _ _ us hl => match us, hl with | [_], _ => rfl,
    g__moves := PySem.W.mg_of X G a_moves,
    F__moves := fun_mk (st := s_moves) l_moves c_moves k_moves,
    k__moves := k_moves,
    bd__moves := (fun_mk (st := s_moves) l_moves c_moves k_moves).binds (ps := ["name"]) fun _ _ _ _ _ _ us hl => match us, hl with | [_], _ => rfl,
    F_Banks___init__ := fun_mk (st := s_Banks___init__) l_Banks___init__ c_Banks___init__ k_Banks___init__,
    k_Banks___init__ := k_Banks___init__,
    bd_Banks___init__ := (fun_mk (st := s_Banks___init__) l_Banks___init__ c_Banks___init__ k_Banks___init__).binds (ps := ["self", "windows"]) fun _ _ _ _ _ _ us hl => match us, hl with | [_, _], _ => rfl,
    F_Banks_read := fun_mk (st := s_Banks_read) l_Banks_read c_Banks_read k_Banks_read,
    k_Banks_read := k_Banks_read,
    bd_Banks_read := (fun_mk (st := s_Banks_read) l_Banks_read c_Banks_read k_Banks_read).binds (ps := ["self", "number"]) fun _ _ _ _ _ _ us hl => match us, hl with | [_, _], _ => rfl,
    F_Banks_write := fun_mk (st := s_Banks_write) l_Banks_write c_Banks_write k_Banks_write,
    k_Banks_write := k_Banks_write,
    bd_Banks_write := (fun_mk (st := s_Banks_write) l_Banks_write c_Banks_write k_Banks_write).binds (ps := ["self", "number", "word"]) fun _ _ _ _ _ _ us hl => match us, hl with | [_, _, _], _ => rfl,
    F_Banks_shift_down := fun_mk (st := s_Banks_shift_down) l_Banks_shift_down c_Banks_shift_down k_Banks_shift_down,
    k_Banks_shift_down := k_Banks_shift_down,
    bd_Banks_shift_down := (fun_mk (st := s_Banks_shift_down) l_Banks_shift_down c_Banks_shift_down k_Banks_shift_down).binds (ps := ["self"]) fun _ _ _ _ _ _ us hl => match us, hl with | [_], _ => rfl,
    F_Banks_shift_up := fun_mk (st := s_Banks_shift_up) l_Banks_shift_up c_Banks_shift_up k_Banks_shift_up,
    k_Banks_shift_up := k_Banks_shift_up,
    bd_Banks_shift_up := (fun_mk (st := s_Banks_shift_up) l_Banks_shift_up c_Banks_shift_up k_Banks_shift_up).binds (ps := ["self"]) fun _ _ _ _ _ _ us hl => match us, hl with | [_], _ => rfl,
    F_Banks_blocked_down := fun_mk (st := s_Banks_blocked_down) l_Banks_blocked_down c_Banks_blocked_down k_Banks_blocked_down,
    k_Banks_blocked_down := k_Banks_blocked_down,
    bd_Banks_blocked_down := (fun_mk (st := s_Banks_blocked_down) l_Banks_blocked_down c_Banks_blocked_down k_Banks_blocked_down).binds (ps := ["self"]) fun _ _ _ _ _ _ us hl => match us, hl with | [_], _ => rfl,
    F_Banks_blocked_up := fun_mk (st := s_Banks_blocked_up) l_Banks_blocked_up c_Banks_blocked_up k_Banks_blocked_up,
    k_Banks_blocked_up := k_Banks_blocked_up,
    bd_Banks_blocked_up := (fun_mk (st := s_Banks_blocked_up) l_Banks_blocked_up c_Banks_blocked_up k_Banks_blocked_up).binds (ps := ["self"]) fun _ _ _ _ _ _ us hl => match us, hl with | [_], _ => rfl,
    F_Banks_set_bar := fun_mk (st := s_Banks_set_bar) l_Banks_set_bar c_Banks_set_bar k_Banks_set_bar,
    k_Banks_set_bar := k_Banks_set_bar,
    bd_Banks_set_bar := (fun_mk (st := s_Banks_set_bar) l_Banks_set_bar c_Banks_set_bar k_Banks_set_bar).binds (ps := ["self", "number"]) fun _ _ _ _ _ _ us hl => match us, hl with | [_, _], _ => rfl,
    F_Banks_trap_down := fun_mk (st := s_Banks_trap_down) l_Banks_trap_down c_Banks_trap_down k_Banks_trap_down,
    k_Banks_trap_down := k_Banks_trap_down,
    bd_Banks_trap_down := (fun_mk (st := s_Banks_trap_down) l_Banks_trap_down c_Banks_trap_down k_Banks_trap_down).binds (ps := ["self", "address"]) fun _ _ _ _ _ _ us hl => match us, hl with | [_, _], _ => rfl,
    F_Banks_trap_up := fun_mk (st := s_Banks_trap_up) l_Banks_trap_up c_Banks_trap_up k_Banks_trap_up,
    k_Banks_trap_up := k_Banks_trap_up,
    bd_Banks_trap_up := (fun_mk (st := s_Banks_trap_up) l_Banks_trap_up c_Banks_trap_up k_Banks_trap_up).binds (ps := ["self", "address"]) fun _ _ _ _ _ _ us hl => match us, hl with | [_, _], _ => rfl,
    F_Banks_leave_trap := fun_mk (st := s_Banks_leave_trap) l_Banks_leave_trap c_Banks_leave_trap k_Banks_leave_trap,
    k_Banks_leave_trap := k_Banks_leave_trap,
    bd_Banks_leave_trap := (fun_mk (st := s_Banks_leave_trap) l_Banks_leave_trap c_Banks_leave_trap k_Banks_leave_trap).binds (ps := ["self"]) fun _ _ _ _ _ _ us hl => match us, hl with | [_], _ => rfl,
    F_Banks__begin_trap := fun_mk (st := s_Banks__begin_trap) l_Banks__begin_trap c_Banks__begin_trap k_Banks__begin_trap,
    k_Banks__begin_trap := k_Banks__begin_trap,
    bd_Banks__begin_trap := (fun_mk (st := s_Banks__begin_trap) l_Banks__begin_trap c_Banks__begin_trap k_Banks__begin_trap).binds (ps := ["self", "address"]) fun _ _ _ _ _ _ us hl => match us, hl with | [_, _], _ => rfl,
    F_Banks__go_down := fun_mk (st := s_Banks__go_down) l_Banks__go_down c_Banks__go_down k_Banks__go_down,
    k_Banks__go_down := k_Banks__go_down,
    bd_Banks__go_down := (fun_mk (st := s_Banks__go_down) l_Banks__go_down c_Banks__go_down k_Banks__go_down).binds (ps := ["self"]) fun _ _ _ _ _ _ us hl => match us, hl with | [_], _ => rfl,
    F_Banks__window_below := fun_mk (st := s_Banks__window_below) l_Banks__window_below c_Banks__window_below k_Banks__window_below,
    k_Banks__window_below := k_Banks__window_below,
    bd_Banks__window_below := (fun_mk (st := s_Banks__window_below) l_Banks__window_below c_Banks__window_below k_Banks__window_below).binds (ps := ["self"]) fun _ _ _ _ _ _ us hl => match us, hl with | [_], _ => rfl,
    F_Banks__window_above := fun_mk (st := s_Banks__window_above) l_Banks__window_above c_Banks__window_above k_Banks__window_above,
    k_Banks__window_above := k_Banks__window_above,
    bd_Banks__window_above := (fun_mk (st := s_Banks__window_above) l_Banks__window_above c_Banks__window_above k_Banks__window_above).binds (ps := ["self"]) fun _ _ _ _ _ _ us hl => match us, hl with | [_], _ => rfl,
    g_empty_view := PySem.W.mg_of X G a_empty_view,
    F_empty_view := fun_mk (st := s_empty_view) l_empty_view c_empty_view k_empty_view,
    k_empty_view := k_empty_view,
    bd_empty_view := (fun_mk (st := s_empty_view) l_empty_view c_empty_view k_empty_view).binds (ps := []) fun _ _ _ _ _ _ us hl => match us, hl with | [], _ => rfl,
    g_locals_and_ins := PySem.W.mg_of X G a_locals_and_ins,
    F_locals_and_ins := fun_mk (st := s_locals_and_ins) l_locals_and_ins c_locals_and_ins k_locals_and_ins,
    k_locals_and_ins := k_locals_and_ins,
    bd_locals_and_ins := (fun_mk (st := s_locals_and_ins) l_locals_and_ins c_locals_and_ins k_locals_and_ins).binds (ps := ["view"]) fun _ _ _ _ _ _ us hl => match us, hl with | [_], _ => rfl,
    g_view_below := PySem.W.mg_of X G a_view_below,
    F_view_below := fun_mk (st := s_view_below) l_view_below c_view_below k_view_below,
    k_view_below := k_view_below,
    bd_view_below := (fun_mk (st := s_view_below) l_view_below c_view_below k_view_below).binds (ps := ["view"]) fun _ _ _ _ _ _ us hl => match us, hl with | [_], _ => rfl,
    g_view_above := PySem.W.mg_of X G a_view_above,
    F_view_above := fun_mk (st := s_view_above) l_view_above c_view_above k_view_above,
    k_view_above := k_view_above,
    bd_view_above := (fun_mk (st := s_view_above) l_view_above c_view_above k_view_above).binds (ps := ["view", "words"]) fun _ _ _ _ _ _ us hl => match us, hl with | [_, _], _ => rfl,
    F_Ring___init__ := fun_mk (st := s_Ring___init__) l_Ring___init__ c_Ring___init__ k_Ring___init__,
    k_Ring___init__ := k_Ring___init__,
    bd_Ring___init__ := (fun_mk (st := s_Ring___init__) l_Ring___init__ c_Ring___init__ k_Ring___init__).binds (ps := ["self", "memory", "windows"]) fun _ _ _ _ _ _ us hl => match us, hl with | [_, _, _], _ => rfl,
    F_Ring_read := fun_mk (st := s_Ring_read) l_Ring_read c_Ring_read k_Ring_read,
    k_Ring_read := k_Ring_read,
    bd_Ring_read := (fun_mk (st := s_Ring_read) l_Ring_read c_Ring_read k_Ring_read).binds (ps := ["self", "number"]) fun _ _ _ _ _ _ us hl => match us, hl with | [_, _], _ => rfl,
    F_Ring_write := fun_mk (st := s_Ring_write) l_Ring_write c_Ring_write k_Ring_write,
    k_Ring_write := k_Ring_write,
    bd_Ring_write := (fun_mk (st := s_Ring_write) l_Ring_write c_Ring_write k_Ring_write).binds (ps := ["self", "number", "word"]) fun _ _ _ _ _ _ us hl => match us, hl with | [_, _, _], _ => rfl,
    F_Ring_shift_down := fun_mk (st := s_Ring_shift_down) l_Ring_shift_down c_Ring_shift_down k_Ring_shift_down,
    k_Ring_shift_down := k_Ring_shift_down,
    bd_Ring_shift_down := (fun_mk (st := s_Ring_shift_down) l_Ring_shift_down c_Ring_shift_down k_Ring_shift_down).binds (ps := ["self"]) fun _ _ _ _ _ _ us hl => match us, hl with | [_], _ => rfl,
    F_Ring_shift_up := fun_mk (st := s_Ring_shift_up) l_Ring_shift_up c_Ring_shift_up k_Ring_shift_up,
    k_Ring_shift_up := k_Ring_shift_up,
    bd_Ring_shift_up := (fun_mk (st := s_Ring_shift_up) l_Ring_shift_up c_Ring_shift_up k_Ring_shift_up).binds (ps := ["self"]) fun _ _ _ _ _ _ us hl => match us, hl with | [_], _ => rfl,
    F_Ring_blocked_down := fun_mk (st := s_Ring_blocked_down) l_Ring_blocked_down c_Ring_blocked_down k_Ring_blocked_down,
    k_Ring_blocked_down := k_Ring_blocked_down,
    bd_Ring_blocked_down := (fun_mk (st := s_Ring_blocked_down) l_Ring_blocked_down c_Ring_blocked_down k_Ring_blocked_down).binds (ps := ["self"]) fun _ _ _ _ _ _ us hl => match us, hl with | [_], _ => rfl,
    F_Ring_blocked_up := fun_mk (st := s_Ring_blocked_up) l_Ring_blocked_up c_Ring_blocked_up k_Ring_blocked_up,
    k_Ring_blocked_up := k_Ring_blocked_up,
    bd_Ring_blocked_up := (fun_mk (st := s_Ring_blocked_up) l_Ring_blocked_up c_Ring_blocked_up k_Ring_blocked_up).binds (ps := ["self"]) fun _ _ _ _ _ _ us hl => match us, hl with | [_], _ => rfl,
    F_Ring__spill := fun_mk (st := s_Ring__spill) l_Ring__spill c_Ring__spill k_Ring__spill,
    k_Ring__spill := k_Ring__spill,
    bd_Ring__spill := (fun_mk (st := s_Ring__spill) l_Ring__spill c_Ring__spill k_Ring__spill).binds (ps := ["self"]) fun _ _ _ _ _ _ us hl => match us, hl with | [_], _ => rfl,
    F_Ring__fill := fun_mk (st := s_Ring__fill) l_Ring__fill c_Ring__fill k_Ring__fill,
    k_Ring__fill := k_Ring__fill,
    bd_Ring__fill := (fun_mk (st := s_Ring__fill) l_Ring__fill c_Ring__fill k_Ring__fill).binds (ps := ["self"]) fun _ _ _ _ _ _ us hl => match us, hl with | [_], _ => rfl,
    F_Ring__save_area := fun_mk (st := s_Ring__save_area) l_Ring__save_area c_Ring__save_area k_Ring__save_area,
    k_Ring__save_area := k_Ring__save_area,
    bd_Ring__save_area := (fun_mk (st := s_Ring__save_area) l_Ring__save_area c_Ring__save_area k_Ring__save_area).binds (ps := ["self", "start"]) fun _ _ _ _ _ _ us hl => match us, hl with | [_, _], _ => rfl,
    g__law_pick := PySem.W.mg_of X G a_law_pick,
    F__law_pick := fun_mk (st := s_law_pick) l_law_pick c_law_pick k_law_pick,
    k__law_pick := k_law_pick,
    bd__law_pick := (fun_mk (st := s_law_pick) l_law_pick c_law_pick k_law_pick).binds (ps := ["state", "limit"]) fun _ _ _ _ _ _ us hl => match us, hl with | [_, _], _ => rfl,
    g__law_is_integer := PySem.W.mg_of X G a_law_is_integer,
    F__law_is_integer := fun_mk (st := s_law_is_integer) l_law_is_integer c_law_is_integer k_law_is_integer,
    k__law_is_integer := k_law_is_integer,
    bd__law_is_integer := (fun_mk (st := s_law_is_integer) l_law_is_integer c_law_is_integer k_law_is_integer).binds (ps := ["actual"]) fun _ _ _ _ _ _ us hl => match us, hl with | [_], _ => rfl,
    g__law_word := PySem.W.mg_of X G a_law_word,
    F__law_word := fun_mk (st := s_law_word) l_law_word c_law_word k_law_word,
    k__law_word := k_law_word,
    bd__law_word := (fun_mk (st := s_law_word) l_law_word c_law_word k_law_word).binds (ps := ["state"]) fun _ _ _ _ _ _ us hl => match us, hl with | [_], _ => rfl,
    g__law_spill := PySem.W.mg_of X G a_law_spill,
    F__law_spill := fun_mk (st := s_law_spill) l_law_spill c_law_spill k_law_spill,
    k__law_spill := k_law_spill,
    bd__law_spill := (fun_mk (st := s_law_spill) l_law_spill c_law_spill k_law_spill).binds (ps := ["windows"]) fun _ _ _ _ _ _ us hl => match us, hl with | [_], _ => rfl,
    g__law_fill := PySem.W.mg_of X G a_law_fill,
    F__law_fill := fun_mk (st := s_law_fill) l_law_fill c_law_fill k_law_fill,
    k__law_fill := k_law_fill,
    bd__law_fill := (fun_mk (st := s_law_fill) l_law_fill c_law_fill k_law_fill).binds (ps := ["windows"]) fun _ _ _ _ _ _ us hl => match us, hl with | [_], _ => rfl,
    g__law_words := PySem.W.mg_of X G a_law_words,
    F__law_words := fun_mk (st := s_law_words) l_law_words c_law_words k_law_words,
    k__law_words := k_law_words,
    bd__law_words := (fun_mk (st := s_law_words) l_law_words c_law_words k_law_words).binds (ps := ["told", "rows"]) fun _ _ _ _ _ _ us hl => match us, hl with | [_, _], _ => rfl,
    g__law_value := PySem.W.mg_of X G a_law_value,
    F__law_value := fun_mk (st := s_law_value) l_law_value c_law_value k_law_value,
    k__law_value := k_law_value,
    bd__law_value := (fun_mk (st := s_law_value) l_law_value c_law_value k_law_value).binds (ps := ["banks", "operand"]) fun _ _ _ _ _ _ us hl => match us, hl with | [_, _], _ => rfl,
    g__law_handle := PySem.W.mg_of X G a_law_handle,
    F__law_handle := fun_mk (st := s_law_handle) l_law_handle c_law_handle k_law_handle,
    k__law_handle := k_law_handle,
    bd__law_handle := (fun_mk (st := s_law_handle) l_law_handle c_law_handle k_law_handle).binds (ps := ["banks", "memory", "rows", "address"]) fun _ _ _ _ _ _ us hl => match us, hl with | [_, _, _, _], _ => rfl,
    g__law_down := PySem.W.mg_of X G a_law_down,
    F__law_down := fun_mk (st := s_law_down) l_law_down c_law_down k_law_down,
    k__law_down := k_law_down,
    bd__law_down := (fun_mk (st := s_law_down) l_law_down c_law_down k_law_down).binds (ps := ["state", "banks", "ring", "memory", "windows"]) fun _ _ _ _ _ _ us hl => match us, hl with | [_, _, _, _, _], _ => rfl,
    g__law_up := PySem.W.mg_of X G a_law_up,
    F__law_up := fun_mk (st := s_law_up) l_law_up c_law_up k_law_up,
    k__law_up := k_law_up,
    bd__law_up := (fun_mk (st := s_law_up) l_law_up c_law_up k_law_up).binds (ps := ["state", "banks", "ring", "memory", "windows"]) fun _ _ _ _ _ _ us hl => match us, hl with | [_, _, _, _, _], _ => rfl,
    g__law_both := PySem.W.mg_of X G a_law_both,
    F__law_both := fun_mk (st := s_law_both) l_law_both c_law_both k_law_both,
    k__law_both := k_law_both,
    bd__law_both := (fun_mk (st := s_law_both) l_law_both c_law_both k_law_both).binds (ps := ["banks", "ring", "word", "number"]) fun _ _ _ _ _ _ us hl => match us, hl with | [_, _, _, _], _ => rfl,
    g__law_same := PySem.W.mg_of X G a_law_same,
    F__law_same := fun_mk (st := s_law_same) l_law_same c_law_same k_law_same,
    k__law_same := k_law_same,
    bd__law_same := (fun_mk (st := s_law_same) l_law_same c_law_same k_law_same).binds (ps := ["banks", "ring", "memories"]) fun _ _ _ _ _ _ us hl => match us, hl with | [_, _, _], _ => rfl,
    g__law_deed := PySem.W.mg_of X G a_law_deed,
    F__law_deed := fun_mk (st := s_law_deed) l_law_deed c_law_deed k_law_deed,
    k__law_deed := k_law_deed,
    bd__law_deed := (fun_mk (st := s_law_deed) l_law_deed c_law_deed k_law_deed).binds (ps := ["state", "banks", "ring", "memories", "windows", "shape"]) fun _ _ _ _ _ _ us hl => match us, hl with | [_, _, _, _, _, _], _ => rfl,
    g_law := PySem.W.mg_of X G a_law,
    F_law := fun_mk (st := s_law) l_law c_law k_law,
    k_law := k_law,
    bd_law := (fun_mk (st := s_law) l_law c_law k_law).binds (ps := ["script"]) fun _ _ _ _ _ _ us hl => match us, hl with | [_], _ => rfl,
    g_FIELDS := PySem.W.mg_of X G a_FIELDS,
    kd_FIELDS_d := ⟨_, _, _, l_FIELDS, lit_FIELDS, v_FIELDS_d, rfl⟩,
    q_FIELDS_d := fun H => sqT_of l_FIELDS_d q_FIELDS_d,
    kd_FIELDS_a := ⟨_, _, _, l_FIELDS, lit_FIELDS, v_FIELDS_a, rfl⟩,
    q_FIELDS_a := fun H => sqT_of l_FIELDS_a q_FIELDS_a,
    kd_FIELDS_reg := ⟨_, _, _, l_FIELDS, lit_FIELDS, v_FIELDS_reg, rfl⟩,
    q_FIELDS_reg := fun H => sqT_of l_FIELDS_reg q_FIELDS_reg,
    kd_FIELDS_int := ⟨_, _, _, l_FIELDS, lit_FIELDS, v_FIELDS_int, rfl⟩,
    q_FIELDS_int := fun H => sqT_of l_FIELDS_int q_FIELDS_int,
    kd_FIELDS_part := ⟨_, _, _, l_FIELDS, lit_FIELDS, v_FIELDS_part, rfl⟩,
    q_FIELDS_part := fun H => sqT_of l_FIELDS_part q_FIELDS_part,
    kd_FIELDS_far := ⟨_, _, _, l_FIELDS, lit_FIELDS, v_FIELDS_far, rfl⟩,
    q_FIELDS_far := fun H => sqT_of l_FIELDS_far q_FIELDS_far,
    kd_FIELDS_distance := ⟨_, _, _, l_FIELDS, lit_FIELDS, v_FIELDS_distance, rfl⟩,
    q_FIELDS_distance := fun H => sqT_of l_FIELDS_distance q_FIELDS_distance,
    kd_FIELDS_number := ⟨_, _, _, l_FIELDS, lit_FIELDS, v_FIELDS_number, rfl⟩,
    q_FIELDS_number := fun H => sqT_of l_FIELDS_number q_FIELDS_number,
    g_FIRST_IN := PySem.W.mg_of X G a_FIRST_IN,
    g_FIRST_LOCAL := PySem.W.mg_of X G a_FIRST_LOCAL,
    g_FIRST_OUT := PySem.W.mg_of X G a_FIRST_OUT,
    g_FLAG := PySem.W.mg_of X G a_FLAG,
    g_FORMS := PySem.W.mg_of X G a_FORMS,
    kd_FORMS_halt := ⟨_, _, _, l_FORMS, lit_FORMS, v_FORMS_halt, rfl⟩,
    q_FORMS_halt := fun H => sqT_of l_FORMS_halt q_FORMS_halt,
    kd_FORMS_add := ⟨_, _, _, l_FORMS, lit_FORMS, v_FORMS_add, rfl⟩,
    q_FORMS_add := fun H => sqT_of l_FORMS_add q_FORMS_add,
    kd_FORMS_sub := ⟨_, _, _, l_FORMS, lit_FORMS, v_FORMS_sub, rfl⟩,
    q_FORMS_sub := fun H => sqT_of l_FORMS_sub q_FORMS_sub,
    kd_FORMS_mul := ⟨_, _, _, l_FORMS, lit_FORMS, v_FORMS_mul, rfl⟩,
    q_FORMS_mul := fun H => sqT_of l_FORMS_mul q_FORMS_mul,
    kd_FORMS_div := ⟨_, _, _, l_FORMS, lit_FORMS, v_FORMS_div, rfl⟩,
    q_FORMS_div := fun H => sqT_of l_FORMS_div q_FORMS_div,
    kd_FORMS_mod := ⟨_, _, _, l_FORMS, lit_FORMS, v_FORMS_mod, rfl⟩,
    q_FORMS_mod := fun H => sqT_of l_FORMS_mod q_FORMS_mod,
    kd_FORMS_rem := ⟨_, _, _, l_FORMS, lit_FORMS, v_FORMS_rem, rfl⟩,
    q_FORMS_rem := fun H => sqT_of l_FORMS_rem q_FORMS_rem,
    kd_FORMS_less := ⟨_, _, _, l_FORMS, lit_FORMS, v_FORMS_less, rfl⟩,
    q_FORMS_less := fun H => sqT_of l_FORMS_less q_FORMS_less,
    kd_FORMS_equal := ⟨_, _, _, l_FORMS, lit_FORMS, v_FORMS_equal, rfl⟩,
    q_FORMS_equal := fun H => sqT_of l_FORMS_equal q_FORMS_equal,
    kd_FORMS_high := ⟨_, _, _, l_FORMS, lit_FORMS, v_FORMS_high, rfl⟩,
    q_FORMS_high := fun H => sqT_of l_FORMS_high q_FORMS_high,
    kd_FORMS_low := ⟨_, _, _, l_FORMS, lit_FORMS, v_FORMS_low, rfl⟩,
    q_FORMS_low := fun H => sqT_of l_FORMS_low q_FORMS_low,
    kd_FORMS_load := ⟨_, _, _, l_FORMS, lit_FORMS, v_FORMS_load, rfl⟩,
    q_FORMS_load := fun H => sqT_of l_FORMS_load q_FORMS_load,
    kd_FORMS_store := ⟨_, _, _, l_FORMS, lit_FORMS, v_FORMS_store, rfl⟩,
    q_FORMS_store := fun H => sqT_of l_FORMS_store q_FORMS_store,
    kd_FORMS_jump := ⟨_, _, _, l_FORMS, lit_FORMS, v_FORMS_jump, rfl⟩,
    q_FORMS_jump := fun H => sqT_of l_FORMS_jump q_FORMS_jump,
    kd_FORMS_branch := ⟨_, _, _, l_FORMS, lit_FORMS, v_FORMS_branch, rfl⟩,
    q_FORMS_branch := fun H => sqT_of l_FORMS_branch q_FORMS_branch,
    kd_FORMS_call := ⟨_, _, _, l_FORMS, lit_FORMS, v_FORMS_call, rfl⟩,
    q_FORMS_call := fun H => sqT_of l_FORMS_call q_FORMS_call,
    kd_FORMS_save := ⟨_, _, _, l_FORMS, lit_FORMS, v_FORMS_save, rfl⟩,
    q_FORMS_save := fun H => sqT_of l_FORMS_save q_FORMS_save,
    kd_FORMS_restore := ⟨_, _, _, l_FORMS, lit_FORMS, v_FORMS_restore, rfl⟩,
    q_FORMS_restore := fun H => sqT_of l_FORMS_restore q_FORMS_restore,
    kd_FORMS_back := ⟨_, _, _, l_FORMS, lit_FORMS, v_FORMS_back, rfl⟩,
    q_FORMS_back := fun H => sqT_of l_FORMS_back q_FORMS_back,
    kd_FORMS_raise := ⟨_, _, _, l_FORMS, lit_FORMS, v_FORMS_raise, rfl⟩,
    q_FORMS_raise := fun H => sqT_of l_FORMS_raise q_FORMS_raise,
    kd_FORMS_again := ⟨_, _, _, l_FORMS, lit_FORMS, v_FORMS_again, rfl⟩,
    q_FORMS_again := fun H => sqT_of l_FORMS_again q_FORMS_again,
    kd_FORMS_tick := ⟨_, _, _, l_FORMS, lit_FORMS, v_FORMS_tick, rfl⟩,
    q_FORMS_tick := fun H => sqT_of l_FORMS_tick q_FORMS_tick,
    kd_FORMS_put := ⟨_, _, _, l_FORMS, lit_FORMS, v_FORMS_put, rfl⟩,
    q_FORMS_put := fun H => sqT_of l_FORMS_put q_FORMS_put,
    kd_FORMS_get := ⟨_, _, _, l_FORMS, lit_FORMS, v_FORMS_get, rfl⟩,
    q_FORMS_get := fun H => sqT_of l_FORMS_get q_FORMS_get,
    kd_FORMS_below := ⟨_, _, _, l_FORMS, lit_FORMS, v_FORMS_below, rfl⟩,
    q_FORMS_below := fun H => sqT_of l_FORMS_below q_FORMS_below,
    kd_FORMS_above := ⟨_, _, _, l_FORMS, lit_FORMS, v_FORMS_above, rfl⟩,
    q_FORMS_above := fun H => sqT_of l_FORMS_above q_FORMS_above,
    kd_FORMS_bar := ⟨_, _, _, l_FORMS, lit_FORMS, v_FORMS_bar, rfl⟩,
    q_FORMS_bar := fun H => sqT_of l_FORMS_bar q_FORMS_bar,
    kd_FORMS_setbar := ⟨_, _, _, l_FORMS, lit_FORMS, v_FORMS_setbar, rfl⟩,
    q_FORMS_setbar := fun H => sqT_of l_FORMS_setbar q_FORMS_setbar,
    kd_FORMS_retry := ⟨_, _, _, l_FORMS, lit_FORMS, v_FORMS_retry, rfl⟩,
    q_FORMS_retry := fun H => sqT_of l_FORMS_retry q_FORMS_retry,
    g_NAMES := PySem.W.mg_of X G a_NAMES,
    q_NAMES := fun H => sqT_of l_NAMES q_NAMES,
    y_NAMES := ⟨_, l_NAMES, q_NAMES.1, dn_NAMES⟩,
    g_NAME_SHIFT := PySem.W.mg_of X G a_NAME_SHIFT,
    g_POINTER := PySem.W.mg_of X G a_POINTER,
    g_SAVED := PySem.W.mg_of X G a_SAVED,
    g_STACK := PySem.W.mg_of X G a_STACK,
    b_bool := PySem.W.mg_none_of X G z_bool,
    b_int := PySem.W.mg_none_of X G z_int,
    b_isinstance := PySem.W.mg_none_of X G z_isinstance,
    b_len := PySem.W.mg_none_of X G z_len,
    b_range := PySem.W.mg_none_of X G z_range,
    b_tuple := PySem.W.mg_none_of X G z_tuple,
    b_zip := PySem.W.mg_none_of X G z_zip,
    g_Ring := PySem.W.mg_of X G aC_Ring,
    cl_Ring := ⟨pg_Ring, hd_Ring, po_Ring, sa_Ring⟩,
    mk_Ring := ⟨mk_Ring, a_Ring___init__, i_Ring___init__, kC_Ring⟩,
    n_Ring_depth := n_Ring_depth,
    n_Ring_spills := n_Ring_spills,
    n_Ring_fills := n_Ring_fills,
    n_Ring_resident := n_Ring_resident,
    n_Ring__memory := n_Ring__memory,
    n_Ring__most := n_Ring__most,
    n_Ring__view := n_Ring__view,
    n_Ring__above := n_Ring__above,
    m_Ring_read := ⟨a_Ring_read, i_Ring_read, k_Ring_read⟩,
    m_Ring_write := ⟨a_Ring_write, i_Ring_write, k_Ring_write⟩,
    m_Ring_shift_down := ⟨a_Ring_shift_down, i_Ring_shift_down, k_Ring_shift_down⟩,
    m_Ring_shift_up := ⟨a_Ring_shift_up, i_Ring_shift_up, k_Ring_shift_up⟩,
    m_Ring_blocked_down := ⟨a_Ring_blocked_down, i_Ring_blocked_down, k_Ring_blocked_down⟩,
    m_Ring_blocked_up := ⟨a_Ring_blocked_up, i_Ring_blocked_up, k_Ring_blocked_up⟩,
    m_Ring__spill := ⟨a_Ring__spill, i_Ring__spill, k_Ring__spill⟩,
    m_Ring__fill := ⟨a_Ring__fill, i_Ring__fill, k_Ring__fill⟩,
    m_Ring__save_area := ⟨a_Ring__save_area, i_Ring__save_area, k_Ring__save_area⟩,
    g_Banks := PySem.W.mg_of X G aC_Banks,
    cl_Banks := ⟨pg_Banks, hd_Banks, po_Banks, sa_Banks⟩,
    mk_Banks := ⟨mk_Banks, a_Banks___init__, i_Banks___init__, kC_Banks⟩,
    n_Banks_depth := n_Banks_depth,
    n_Banks_spills := n_Banks_spills,
    n_Banks_fills := n_Banks_fills,
    n_Banks_current := n_Banks_current,
    n_Banks_barred := n_Banks_barred,
    n_Banks__globals := n_Banks__globals,
    n_Banks__windows := n_Banks__windows,
    m_Banks_read := ⟨a_Banks_read, i_Banks_read, k_Banks_read⟩,
    m_Banks_write := ⟨a_Banks_write, i_Banks_write, k_Banks_write⟩,
    m_Banks_shift_down := ⟨a_Banks_shift_down, i_Banks_shift_down, k_Banks_shift_down⟩,
    m_Banks_shift_up := ⟨a_Banks_shift_up, i_Banks_shift_up, k_Banks_shift_up⟩,
    m_Banks_blocked_down := ⟨a_Banks_blocked_down, i_Banks_blocked_down, k_Banks_blocked_down⟩,
    m_Banks_blocked_up := ⟨a_Banks_blocked_up, i_Banks_blocked_up, k_Banks_blocked_up⟩,
    m_Banks_set_bar := ⟨a_Banks_set_bar, i_Banks_set_bar, k_Banks_set_bar⟩,
    m_Banks_trap_down := ⟨a_Banks_trap_down, i_Banks_trap_down, k_Banks_trap_down⟩,
    m_Banks_trap_up := ⟨a_Banks_trap_up, i_Banks_trap_up, k_Banks_trap_up⟩,
    m_Banks_leave_trap := ⟨a_Banks_leave_trap, i_Banks_leave_trap, k_Banks_leave_trap⟩,
    m_Banks__begin_trap := ⟨a_Banks__begin_trap, i_Banks__begin_trap, k_Banks__begin_trap⟩,
    m_Banks__go_down := ⟨a_Banks__go_down, i_Banks__go_down, k_Banks__go_down⟩,
    m_Banks__window_below := ⟨a_Banks__window_below, i_Banks__window_below, k_Banks__window_below⟩,
    m_Banks__window_above := ⟨a_Banks__window_above, i_Banks__window_above, k_Banks__window_above⟩,
    g_Fault := PySem.W.mg_of X G aC_Fault,
    x_Fault := x_Fault,
    kC_Fault := kC_Fault,
    s1_Fault := s1_Fault,
    ty_Fault := ty_Fault,
    ic_Fault := ic_Fault,
    g_AdaError := PySem.W.mg_of X G aC_AdaError,
    x_AdaError := x_AdaError,
    kC_AdaError := kC_AdaError,
    s1_AdaError := s1_AdaError,
    ty_AdaError := ty_AdaError,
    ic_AdaError := ic_AdaError,
    g_ImageError := PySem.W.mg_of X G aC_ImageError,
    x_ImageError := x_ImageError,
    kC_ImageError := kC_ImageError,
    s1_ImageError := s1_ImageError,
    ty_ImageError := ty_ImageError,
    ic_ImageError := ic_ImageError }
  exact ⟨a.d_law, fun s v => .of_eq rfl, fun base _ _ => ok_law T⟩
theorem walk {l : PySem.W.OpenLaw} {q : Program} {loose : List Str} {XP : (Str → Option Value) → Heap → Prop} {YP : World → Heap → Prop} {d : DefRec} {K : Params → PySem.W.Frag} (hn : l.most = some 63) (hdf : d.params.defaults = [])
    (hY : ∀ (w : World) (h : Heap), YP w h → (K w.params).In h)
    (F : ∀ (w : World) (mg : Str → Option Value) (fa : Addr) (h : Heap), (K w.params).In h → h.Ns mainGlobals mg → mg d.name = some (.ref fa) →
      ∃ fd : FuncData, (∀ (s : Shared) (u : Value), BindsTo s fd ⟨[u], []⟩ [("script", u)]) ∧ ∀ base : Heap, (K w.params).In base → base.Ns mainGlobals mg → FnOk l.prog w (K w.params) mg base CX0 7 fa fd ["script"] (spLaw (K w.params))) :
    PySem.W.WalkO q loose XP YP l.row.toRowW d [] (fun f vs => PySem.call f vs) :=
  L2.walk_of (n := 63) (k := 7) (x := "script") (CX := fun _ => CX0) (sp := fun w => spLaw (K w.params)) hn (by decide) hdf ⟨rfl, by decide, by decide⟩ hY F (fun _ _ a ns hl _ hS => ⟨a, ns, rfl, hS, hl, fun _ => rfl⟩) fun _ _ _ _ _ z => z

end My
open PySem PySem.W PyProof.Rows
set_option maxRecDepth 100000 in
set_option maxHeartbeats 0 in
theorem PySem.Challenge.cw_windowada_k69_trap_handlers_holds : PySem.Challenge.rw_windowada_k69_trap_handlers.Holds := by
  w_on; o_law; k_head; (case hw => w_witness2)
  k_fill
  refine My.walk (l := PySem.Challenge.rw_windowada_k69_trap_handlers) rfl rfl (fun w h Y => PySem.W.kIn_of Y) ?F
  case F =>
    intro w mg fa h KX G hmg
    refine' My.all_mk KX G hmg ?aC_Ring ?pg_Ring ?hd_Ring ?po_Ring ?sa_Ring ?mk_Ring ?kC_Ring ?n_Ring_depth ?n_Ring_spills ?n_Ring_fills ?n_Ring_resident ?n_Ring__memory ?n_Ring__most ?n_Ring__view ?n_Ring__above ?aC_Banks ?pg_Banks ?hd_Banks ?po_Banks ?sa_Banks ?mk_Banks ?kC_Banks ?n_Banks_depth ?n_Banks_spills ?n_Banks_fills ?n_Banks_current ?n_Banks_barred ?n_Banks__globals ?n_Banks__windows ?aC_Fault ?x_Fault ?kC_Fault ?s1_Fault ?ty_Fault ?ic_Fault ?aC_AdaError ?x_AdaError ?kC_AdaError ?s1_AdaError ?ty_AdaError ?ic_AdaError ?aC_ImageError ?x_ImageError ?kC_ImageError ?s1_ImageError ?ty_ImageError ?ic_ImageError ?a_encode ?l_encode ?c_encode ?k_encode ?a_bits_of ?l_bits_of ?c_bits_of ?k_bits_of ?a_trap_code ?l_trap_code ?c_trap_code ?k_trap_code ?a_spill ?l_spill ?c_spill ?k_spill ?a_fill ?l_fill ?c_fill ?k_fill ?a_moves ?l_moves ?c_moves ?k_moves ?a_Banks___init__ ?i_Banks___init__ ?l_Banks___init__ ?c_Banks___init__ ?k_Banks___init__ ?a_Banks_read ?i_Banks_read ?l_Banks_read ?c_Banks_read ?k_Banks_read ?a_Banks_write ?i_Banks_write ?l_Banks_write ?c_Banks_write ?k_Banks_write ?a_Banks_shift_down ?i_Banks_shift_down ?l_Banks_shift_down ?c_Banks_shift_down ?k_Banks_shift_down ?a_Banks_shift_up ?i_Banks_shift_up ?l_Banks_shift_up ?c_Banks_shift_up ?k_Banks_shift_up ?a_Banks_blocked_down ?i_Banks_blocked_down ?l_Banks_blocked_down ?c_Banks_blocked_down ?k_Banks_blocked_down ?a_Banks_blocked_up ?i_Banks_blocked_up ?l_Banks_blocked_up ?c_Banks_blocked_up ?k_Banks_blocked_up ?a_Banks_set_bar ?i_Banks_set_bar ?l_Banks_set_bar ?c_Banks_set_bar ?k_Banks_set_bar ?a_Banks_trap_down ?i_Banks_trap_down ?l_Banks_trap_down ?c_Banks_trap_down ?k_Banks_trap_down ?a_Banks_trap_up ?i_Banks_trap_up ?l_Banks_trap_up ?c_Banks_trap_up ?k_Banks_trap_up ?a_Banks_leave_trap ?i_Banks_leave_trap ?l_Banks_leave_trap ?c_Banks_leave_trap ?k_Banks_leave_trap ?a_Banks__begin_trap ?i_Banks__begin_trap ?l_Banks__begin_trap ?c_Banks__begin_trap ?k_Banks__begin_trap ?a_Banks__go_down ?i_Banks__go_down ?l_Banks__go_down ?c_Banks__go_down ?k_Banks__go_down ?a_Banks__window_below ?i_Banks__window_below ?l_Banks__window_below ?c_Banks__window_below ?k_Banks__window_below ?a_Banks__window_above ?i_Banks__window_above ?l_Banks__window_above ?c_Banks__window_above ?k_Banks__window_above ?a_empty_view ?l_empty_view ?c_empty_view ?k_empty_view ?a_locals_and_ins ?l_locals_and_ins ?c_locals_and_ins ?k_locals_and_ins ?a_view_below ?l_view_below ?c_view_below ?k_view_below ?a_view_above ?l_view_above ?c_view_above ?k_view_above ?a_Ring___init__ ?i_Ring___init__ ?l_Ring___init__ ?c_Ring___init__ ?k_Ring___init__ ?a_Ring_read ?i_Ring_read ?l_Ring_read ?c_Ring_read ?k_Ring_read ?a_Ring_write ?i_Ring_write ?l_Ring_write ?c_Ring_write ?k_Ring_write ?a_Ring_shift_down ?i_Ring_shift_down ?l_Ring_shift_down ?c_Ring_shift_down ?k_Ring_shift_down ?a_Ring_shift_up ?i_Ring_shift_up ?l_Ring_shift_up ?c_Ring_shift_up ?k_Ring_shift_up ?a_Ring_blocked_down ?i_Ring_blocked_down ?l_Ring_blocked_down ?c_Ring_blocked_down ?k_Ring_blocked_down ?a_Ring_blocked_up ?i_Ring_blocked_up ?l_Ring_blocked_up ?c_Ring_blocked_up ?k_Ring_blocked_up ?a_Ring__spill ?i_Ring__spill ?l_Ring__spill ?c_Ring__spill ?k_Ring__spill ?a_Ring__fill ?i_Ring__fill ?l_Ring__fill ?c_Ring__fill ?k_Ring__fill ?a_Ring__save_area ?i_Ring__save_area ?l_Ring__save_area ?c_Ring__save_area ?k_Ring__save_area ?a_law_pick ?l_law_pick ?c_law_pick ?k_law_pick ?a_law_is_integer ?l_law_is_integer ?c_law_is_integer ?k_law_is_integer ?a_law_word ?l_law_word ?c_law_word ?k_law_word ?a_law_spill ?l_law_spill ?c_law_spill ?k_law_spill ?a_law_fill ?l_law_fill ?c_law_fill ?k_law_fill ?a_law_words ?l_law_words ?c_law_words ?k_law_words ?a_law_value ?l_law_value ?c_law_value ?k_law_value ?a_law_handle ?l_law_handle ?c_law_handle ?k_law_handle ?a_law_down ?l_law_down ?c_law_down ?k_law_down ?a_law_up ?l_law_up ?c_law_up ?k_law_up ?a_law_both ?l_law_both ?c_law_both ?k_law_both ?a_law_same ?l_law_same ?c_law_same ?k_law_same ?a_law_deed ?l_law_deed ?c_law_deed ?k_law_deed ?a_law ?l_law ?c_law ?k_law ?a_FIELDS ?l_FIELDS ?lit_FIELDS ?v_FIELDS_d ?l_FIELDS_d ?q_FIELDS_d ?v_FIELDS_a ?l_FIELDS_a ?q_FIELDS_a ?v_FIELDS_reg ?l_FIELDS_reg ?q_FIELDS_reg ?v_FIELDS_int ?l_FIELDS_int ?q_FIELDS_int ?v_FIELDS_part ?l_FIELDS_part ?q_FIELDS_part ?v_FIELDS_far ?l_FIELDS_far ?q_FIELDS_far ?v_FIELDS_distance ?l_FIELDS_distance ?q_FIELDS_distance ?v_FIELDS_number ?l_FIELDS_number ?q_FIELDS_number ?a_FIRST_IN ?a_FIRST_LOCAL ?a_FIRST_OUT ?a_FLAG ?a_FORMS ?l_FORMS ?lit_FORMS ?v_FORMS_halt ?l_FORMS_halt ?q_FORMS_halt ?v_FORMS_add ?l_FORMS_add ?q_FORMS_add ?v_FORMS_sub ?l_FORMS_sub ?q_FORMS_sub ?v_FORMS_mul ?l_FORMS_mul ?q_FORMS_mul ?v_FORMS_div ?l_FORMS_div ?q_FORMS_div ?v_FORMS_mod ?l_FORMS_mod ?q_FORMS_mod ?v_FORMS_rem ?l_FORMS_rem ?q_FORMS_rem ?v_FORMS_less ?l_FORMS_less ?q_FORMS_less ?v_FORMS_equal ?l_FORMS_equal ?q_FORMS_equal ?v_FORMS_high ?l_FORMS_high ?q_FORMS_high ?v_FORMS_low ?l_FORMS_low ?q_FORMS_low ?v_FORMS_load ?l_FORMS_load ?q_FORMS_load ?v_FORMS_store ?l_FORMS_store ?q_FORMS_store ?v_FORMS_jump ?l_FORMS_jump ?q_FORMS_jump ?v_FORMS_branch ?l_FORMS_branch ?q_FORMS_branch ?v_FORMS_call ?l_FORMS_call ?q_FORMS_call ?v_FORMS_save ?l_FORMS_save ?q_FORMS_save ?v_FORMS_restore ?l_FORMS_restore ?q_FORMS_restore ?v_FORMS_back ?l_FORMS_back ?q_FORMS_back ?v_FORMS_raise ?l_FORMS_raise ?q_FORMS_raise ?v_FORMS_again ?l_FORMS_again ?q_FORMS_again ?v_FORMS_tick ?l_FORMS_tick ?q_FORMS_tick ?v_FORMS_put ?l_FORMS_put ?q_FORMS_put ?v_FORMS_get ?l_FORMS_get ?q_FORMS_get ?v_FORMS_below ?l_FORMS_below ?q_FORMS_below ?v_FORMS_above ?l_FORMS_above ?q_FORMS_above ?v_FORMS_bar ?l_FORMS_bar ?q_FORMS_bar ?v_FORMS_setbar ?l_FORMS_setbar ?q_FORMS_setbar ?v_FORMS_retry ?l_FORMS_retry ?q_FORMS_retry ?a_NAMES ?l_NAMES ?q_NAMES ?dn_NAMES ?a_NAME_SHIFT ?a_POINTER ?a_SAVED ?a_STACK ?z_bool ?z_int ?z_isinstance ?z_len ?z_range ?z_tuple ?z_zip
    (case aC_Ring => k_is)
    (case pg_Ring => k_is)
    (case hd_Ring => k_is)
    (case po_Ring => k_is)
    (case sa_Ring => k_is)
    (case mk_Ring => k_is)
    (case kC_Ring => k_is)
    (case n_Ring_depth => k_is)
    (case n_Ring_spills => k_is)
    (case n_Ring_fills => k_is)
    (case n_Ring_resident => k_is)
    (case n_Ring__memory => k_is)
    (case n_Ring__most => k_is)
    (case n_Ring__view => k_is)
    (case n_Ring__above => k_is)
    (case aC_Banks => k_is)
    (case pg_Banks => k_is)
    (case hd_Banks => k_is)
    (case po_Banks => k_is)
    (case sa_Banks => k_is)
    (case mk_Banks => k_is)
    (case kC_Banks => k_is)
    (case n_Banks_depth => k_is)
    (case n_Banks_spills => k_is)
    (case n_Banks_fills => k_is)
    (case n_Banks_current => k_is)
    (case n_Banks_barred => k_is)
    (case n_Banks__globals => k_is)
    (case n_Banks__windows => k_is)
    (case aC_Fault => k_is)
    (case x_Fault => k_exc)
    (case kC_Fault => k_is)
    (case s1_Fault => k_is)
    (case ty_Fault => k_is)
    (case ic_Fault => k_is)
    (case aC_AdaError => k_is)
    (case x_AdaError => k_exc)
    (case kC_AdaError => k_is)
    (case s1_AdaError => k_is)
    (case ty_AdaError => k_is)
    (case ic_AdaError => k_is)
    (case aC_ImageError => k_is)
    (case x_ImageError => k_exc)
    (case kC_ImageError => k_is)
    (case s1_ImageError => k_is)
    (case ty_ImageError => k_is)
    (case ic_ImageError => k_is)
    (case a_encode => k_is)
    (case l_encode => k_is)
    (case c_encode => k_is)
    (case k_encode => k_is)
    (case a_bits_of => k_is)
    (case l_bits_of => k_is)
    (case c_bits_of => k_is)
    (case k_bits_of => k_is)
    (case a_trap_code => k_is)
    (case l_trap_code => k_is)
    (case c_trap_code => k_is)
    (case k_trap_code => k_is)
    (case a_spill => k_is)
    (case l_spill => k_is)
    (case c_spill => k_is)
    (case k_spill => k_is)
    (case a_fill => k_is)
    (case l_fill => k_is)
    (case c_fill => k_is)
    (case k_fill => k_is)
    (case a_moves => k_is)
    (case l_moves => k_is)
    (case c_moves => k_is)
    (case k_moves => k_is)
    (case a_Banks___init__ => k_is)
    (case i_Banks___init__ => first | rfl | k_is)
    (case l_Banks___init__ => k_is)
    (case c_Banks___init__ => k_is)
    (case k_Banks___init__ => k_is)
    (case a_Banks_read => k_is)
    (case i_Banks_read => first | rfl | k_is)
    (case l_Banks_read => k_is)
    (case c_Banks_read => k_is)
    (case k_Banks_read => k_is)
    (case a_Banks_write => k_is)
    (case i_Banks_write => first | rfl | k_is)
    (case l_Banks_write => k_is)
    (case c_Banks_write => k_is)
    (case k_Banks_write => k_is)
    (case a_Banks_shift_down => k_is)
    (case i_Banks_shift_down => first | rfl | k_is)
    (case l_Banks_shift_down => k_is)
    (case c_Banks_shift_down => k_is)
    (case k_Banks_shift_down => k_is)
    (case a_Banks_shift_up => k_is)
    (case i_Banks_shift_up => first | rfl | k_is)
    (case l_Banks_shift_up => k_is)
    (case c_Banks_shift_up => k_is)
    (case k_Banks_shift_up => k_is)
    (case a_Banks_blocked_down => k_is)
    (case i_Banks_blocked_down => first | rfl | k_is)
    (case l_Banks_blocked_down => k_is)
    (case c_Banks_blocked_down => k_is)
    (case k_Banks_blocked_down => k_is)
    (case a_Banks_blocked_up => k_is)
    (case i_Banks_blocked_up => first | rfl | k_is)
    (case l_Banks_blocked_up => k_is)
    (case c_Banks_blocked_up => k_is)
    (case k_Banks_blocked_up => k_is)
    (case a_Banks_set_bar => k_is)
    (case i_Banks_set_bar => first | rfl | k_is)
    (case l_Banks_set_bar => k_is)
    (case c_Banks_set_bar => k_is)
    (case k_Banks_set_bar => k_is)
    (case a_Banks_trap_down => k_is)
    (case i_Banks_trap_down => first | rfl | k_is)
    (case l_Banks_trap_down => k_is)
    (case c_Banks_trap_down => k_is)
    (case k_Banks_trap_down => k_is)
    (case a_Banks_trap_up => k_is)
    (case i_Banks_trap_up => first | rfl | k_is)
    (case l_Banks_trap_up => k_is)
    (case c_Banks_trap_up => k_is)
    (case k_Banks_trap_up => k_is)
    (case a_Banks_leave_trap => k_is)
    (case i_Banks_leave_trap => first | rfl | k_is)
    (case l_Banks_leave_trap => k_is)
    (case c_Banks_leave_trap => k_is)
    (case k_Banks_leave_trap => k_is)
    (case a_Banks__begin_trap => k_is)
    (case i_Banks__begin_trap => first | rfl | k_is)
    (case l_Banks__begin_trap => k_is)
    (case c_Banks__begin_trap => k_is)
    (case k_Banks__begin_trap => k_is)
    (case a_Banks__go_down => k_is)
    (case i_Banks__go_down => first | rfl | k_is)
    (case l_Banks__go_down => k_is)
    (case c_Banks__go_down => k_is)
    (case k_Banks__go_down => k_is)
    (case a_Banks__window_below => k_is)
    (case i_Banks__window_below => first | rfl | k_is)
    (case l_Banks__window_below => k_is)
    (case c_Banks__window_below => k_is)
    (case k_Banks__window_below => k_is)
    (case a_Banks__window_above => k_is)
    (case i_Banks__window_above => first | rfl | k_is)
    (case l_Banks__window_above => k_is)
    (case c_Banks__window_above => k_is)
    (case k_Banks__window_above => k_is)
    (case a_empty_view => k_is)
    (case l_empty_view => k_is)
    (case c_empty_view => k_is)
    (case k_empty_view => k_is)
    (case a_locals_and_ins => k_is)
    (case l_locals_and_ins => k_is)
    (case c_locals_and_ins => k_is)
    (case k_locals_and_ins => k_is)
    (case a_view_below => k_is)
    (case l_view_below => k_is)
    (case c_view_below => k_is)
    (case k_view_below => k_is)
    (case a_view_above => k_is)
    (case l_view_above => k_is)
    (case c_view_above => k_is)
    (case k_view_above => k_is)
    (case a_Ring___init__ => k_is)
    (case i_Ring___init__ => first | rfl | k_is)
    (case l_Ring___init__ => k_is)
    (case c_Ring___init__ => k_is)
    (case k_Ring___init__ => k_is)
    (case a_Ring_read => k_is)
    (case i_Ring_read => first | rfl | k_is)
    (case l_Ring_read => k_is)
    (case c_Ring_read => k_is)
    (case k_Ring_read => k_is)
    (case a_Ring_write => k_is)
    (case i_Ring_write => first | rfl | k_is)
    (case l_Ring_write => k_is)
    (case c_Ring_write => k_is)
    (case k_Ring_write => k_is)
    (case a_Ring_shift_down => k_is)
    (case i_Ring_shift_down => first | rfl | k_is)
    (case l_Ring_shift_down => k_is)
    (case c_Ring_shift_down => k_is)
    (case k_Ring_shift_down => k_is)
    (case a_Ring_shift_up => k_is)
    (case i_Ring_shift_up => first | rfl | k_is)
    (case l_Ring_shift_up => k_is)
    (case c_Ring_shift_up => k_is)
    (case k_Ring_shift_up => k_is)
    (case a_Ring_blocked_down => k_is)
    (case i_Ring_blocked_down => first | rfl | k_is)
    (case l_Ring_blocked_down => k_is)
    (case c_Ring_blocked_down => k_is)
    (case k_Ring_blocked_down => k_is)
    (case a_Ring_blocked_up => k_is)
    (case i_Ring_blocked_up => first | rfl | k_is)
    (case l_Ring_blocked_up => k_is)
    (case c_Ring_blocked_up => k_is)
    (case k_Ring_blocked_up => k_is)
    (case a_Ring__spill => k_is)
    (case i_Ring__spill => first | rfl | k_is)
    (case l_Ring__spill => k_is)
    (case c_Ring__spill => k_is)
    (case k_Ring__spill => k_is)
    (case a_Ring__fill => k_is)
    (case i_Ring__fill => first | rfl | k_is)
    (case l_Ring__fill => k_is)
    (case c_Ring__fill => k_is)
    (case k_Ring__fill => k_is)
    (case a_Ring__save_area => k_is)
    (case i_Ring__save_area => first | rfl | k_is)
    (case l_Ring__save_area => k_is)
    (case c_Ring__save_area => k_is)
    (case k_Ring__save_area => k_is)
    (case a_law_pick => k_is)
    (case l_law_pick => k_is)
    (case c_law_pick => k_is)
    (case k_law_pick => k_is)
    (case a_law_is_integer => k_is)
    (case l_law_is_integer => k_is)
    (case c_law_is_integer => k_is)
    (case k_law_is_integer => k_is)
    (case a_law_word => k_is)
    (case l_law_word => k_is)
    (case c_law_word => k_is)
    (case k_law_word => k_is)
    (case a_law_spill => k_is)
    (case l_law_spill => k_is)
    (case c_law_spill => k_is)
    (case k_law_spill => k_is)
    (case a_law_fill => k_is)
    (case l_law_fill => k_is)
    (case c_law_fill => k_is)
    (case k_law_fill => k_is)
    (case a_law_words => k_is)
    (case l_law_words => k_is)
    (case c_law_words => k_is)
    (case k_law_words => k_is)
    (case a_law_value => k_is)
    (case l_law_value => k_is)
    (case c_law_value => k_is)
    (case k_law_value => k_is)
    (case a_law_handle => k_is)
    (case l_law_handle => k_is)
    (case c_law_handle => k_is)
    (case k_law_handle => k_is)
    (case a_law_down => k_is)
    (case l_law_down => k_is)
    (case c_law_down => k_is)
    (case k_law_down => k_is)
    (case a_law_up => k_is)
    (case l_law_up => k_is)
    (case c_law_up => k_is)
    (case k_law_up => k_is)
    (case a_law_both => k_is)
    (case l_law_both => k_is)
    (case c_law_both => k_is)
    (case k_law_both => k_is)
    (case a_law_same => k_is)
    (case l_law_same => k_is)
    (case c_law_same => k_is)
    (case k_law_same => k_is)
    (case a_law_deed => k_is)
    (case l_law_deed => k_is)
    (case c_law_deed => k_is)
    (case k_law_deed => k_is)
    (case a_law => k_is)
    (case l_law => k_is)
    (case c_law => k_is)
    (case k_law => k_is)
    (case a_FIELDS => k_is)
    (case l_FIELDS => k_is)
    (case lit_FIELDS => repeat (first | exact trivial | refine ⟨⟨_, _, rfl, rfl⟩, ?_⟩))
    (case v_FIELDS_d => k_is)
    (case l_FIELDS_d => k_is)
    (case q_FIELDS_d => refine ⟨rfl, _, _, rfl, by decide, ?_⟩; repeat (first | exact .nil | refine .cons ⟨_, rfl⟩ ?_))
    (case v_FIELDS_a => k_is)
    (case l_FIELDS_a => k_is)
    (case q_FIELDS_a => refine ⟨rfl, _, _, rfl, by decide, ?_⟩; repeat (first | exact .nil | refine .cons ⟨_, rfl⟩ ?_))
    (case v_FIELDS_reg => k_is)
    (case l_FIELDS_reg => k_is)
    (case q_FIELDS_reg => refine ⟨rfl, _, _, rfl, by decide, ?_⟩; repeat (first | exact .nil | refine .cons ⟨_, rfl⟩ ?_))
    (case v_FIELDS_int => k_is)
    (case l_FIELDS_int => k_is)
    (case q_FIELDS_int => refine ⟨rfl, _, _, rfl, by decide, ?_⟩; repeat (first | exact .nil | refine .cons ⟨_, rfl⟩ ?_))
    (case v_FIELDS_part => k_is)
    (case l_FIELDS_part => k_is)
    (case q_FIELDS_part => refine ⟨rfl, _, _, rfl, by decide, ?_⟩; repeat (first | exact .nil | refine .cons ⟨_, rfl⟩ ?_))
    (case v_FIELDS_far => k_is)
    (case l_FIELDS_far => k_is)
    (case q_FIELDS_far => refine ⟨rfl, _, _, rfl, by decide, ?_⟩; repeat (first | exact .nil | refine .cons ⟨_, rfl⟩ ?_))
    (case v_FIELDS_distance => k_is)
    (case l_FIELDS_distance => k_is)
    (case q_FIELDS_distance => refine ⟨rfl, _, _, rfl, by decide, ?_⟩; repeat (first | exact .nil | refine .cons ⟨_, rfl⟩ ?_))
    (case v_FIELDS_number => k_is)
    (case l_FIELDS_number => k_is)
    (case q_FIELDS_number => refine ⟨rfl, _, _, rfl, by decide, ?_⟩; repeat (first | exact .nil | refine .cons ⟨_, rfl⟩ ?_))
    (case a_FIRST_IN => k_is)
    (case a_FIRST_LOCAL => k_is)
    (case a_FIRST_OUT => k_is)
    (case a_FLAG => k_is)
    (case a_FORMS => k_is)
    (case l_FORMS => k_is)
    (case lit_FORMS => repeat (first | exact trivial | refine ⟨⟨_, _, rfl, rfl⟩, ?_⟩))
    (case v_FORMS_halt => k_is)
    (case l_FORMS_halt => k_is)
    (case q_FORMS_halt => refine ⟨rfl, _, _, rfl, by decide, ?_⟩; repeat (first | exact .nil | refine .cons ⟨_, rfl⟩ ?_))
    (case v_FORMS_add => k_is)
    (case l_FORMS_add => k_is)
    (case q_FORMS_add => refine ⟨rfl, _, _, rfl, by decide, ?_⟩; repeat (first | exact .nil | refine .cons ⟨_, rfl⟩ ?_))
    (case v_FORMS_sub => k_is)
    (case l_FORMS_sub => k_is)
    (case q_FORMS_sub => refine ⟨rfl, _, _, rfl, by decide, ?_⟩; repeat (first | exact .nil | refine .cons ⟨_, rfl⟩ ?_))
    (case v_FORMS_mul => k_is)
    (case l_FORMS_mul => k_is)
    (case q_FORMS_mul => refine ⟨rfl, _, _, rfl, by decide, ?_⟩; repeat (first | exact .nil | refine .cons ⟨_, rfl⟩ ?_))
    (case v_FORMS_div => k_is)
    (case l_FORMS_div => k_is)
    (case q_FORMS_div => refine ⟨rfl, _, _, rfl, by decide, ?_⟩; repeat (first | exact .nil | refine .cons ⟨_, rfl⟩ ?_))
    (case v_FORMS_mod => k_is)
    (case l_FORMS_mod => k_is)
    (case q_FORMS_mod => refine ⟨rfl, _, _, rfl, by decide, ?_⟩; repeat (first | exact .nil | refine .cons ⟨_, rfl⟩ ?_))
    (case v_FORMS_rem => k_is)
    (case l_FORMS_rem => k_is)
    (case q_FORMS_rem => refine ⟨rfl, _, _, rfl, by decide, ?_⟩; repeat (first | exact .nil | refine .cons ⟨_, rfl⟩ ?_))
    (case v_FORMS_less => k_is)
    (case l_FORMS_less => k_is)
    (case q_FORMS_less => refine ⟨rfl, _, _, rfl, by decide, ?_⟩; repeat (first | exact .nil | refine .cons ⟨_, rfl⟩ ?_))
    (case v_FORMS_equal => k_is)
    (case l_FORMS_equal => k_is)
    (case q_FORMS_equal => refine ⟨rfl, _, _, rfl, by decide, ?_⟩; repeat (first | exact .nil | refine .cons ⟨_, rfl⟩ ?_))
    (case v_FORMS_high => k_is)
    (case l_FORMS_high => k_is)
    (case q_FORMS_high => refine ⟨rfl, _, _, rfl, by decide, ?_⟩; repeat (first | exact .nil | refine .cons ⟨_, rfl⟩ ?_))
    (case v_FORMS_low => k_is)
    (case l_FORMS_low => k_is)
    (case q_FORMS_low => refine ⟨rfl, _, _, rfl, by decide, ?_⟩; repeat (first | exact .nil | refine .cons ⟨_, rfl⟩ ?_))
    (case v_FORMS_load => k_is)
    (case l_FORMS_load => k_is)
    (case q_FORMS_load => refine ⟨rfl, _, _, rfl, by decide, ?_⟩; repeat (first | exact .nil | refine .cons ⟨_, rfl⟩ ?_))
    (case v_FORMS_store => k_is)
    (case l_FORMS_store => k_is)
    (case q_FORMS_store => refine ⟨rfl, _, _, rfl, by decide, ?_⟩; repeat (first | exact .nil | refine .cons ⟨_, rfl⟩ ?_))
    (case v_FORMS_jump => k_is)
    (case l_FORMS_jump => k_is)
    (case q_FORMS_jump => refine ⟨rfl, _, _, rfl, by decide, ?_⟩; repeat (first | exact .nil | refine .cons ⟨_, rfl⟩ ?_))
    (case v_FORMS_branch => k_is)
    (case l_FORMS_branch => k_is)
    (case q_FORMS_branch => refine ⟨rfl, _, _, rfl, by decide, ?_⟩; repeat (first | exact .nil | refine .cons ⟨_, rfl⟩ ?_))
    (case v_FORMS_call => k_is)
    (case l_FORMS_call => k_is)
    (case q_FORMS_call => refine ⟨rfl, _, _, rfl, by decide, ?_⟩; repeat (first | exact .nil | refine .cons ⟨_, rfl⟩ ?_))
    (case v_FORMS_save => k_is)
    (case l_FORMS_save => k_is)
    (case q_FORMS_save => refine ⟨rfl, _, _, rfl, by decide, ?_⟩; repeat (first | exact .nil | refine .cons ⟨_, rfl⟩ ?_))
    (case v_FORMS_restore => k_is)
    (case l_FORMS_restore => k_is)
    (case q_FORMS_restore => refine ⟨rfl, _, _, rfl, by decide, ?_⟩; repeat (first | exact .nil | refine .cons ⟨_, rfl⟩ ?_))
    (case v_FORMS_back => k_is)
    (case l_FORMS_back => k_is)
    (case q_FORMS_back => refine ⟨rfl, _, _, rfl, by decide, ?_⟩; repeat (first | exact .nil | refine .cons ⟨_, rfl⟩ ?_))
    (case v_FORMS_raise => k_is)
    (case l_FORMS_raise => k_is)
    (case q_FORMS_raise => refine ⟨rfl, _, _, rfl, by decide, ?_⟩; repeat (first | exact .nil | refine .cons ⟨_, rfl⟩ ?_))
    (case v_FORMS_again => k_is)
    (case l_FORMS_again => k_is)
    (case q_FORMS_again => refine ⟨rfl, _, _, rfl, by decide, ?_⟩; repeat (first | exact .nil | refine .cons ⟨_, rfl⟩ ?_))
    (case v_FORMS_tick => k_is)
    (case l_FORMS_tick => k_is)
    (case q_FORMS_tick => refine ⟨rfl, _, _, rfl, by decide, ?_⟩; repeat (first | exact .nil | refine .cons ⟨_, rfl⟩ ?_))
    (case v_FORMS_put => k_is)
    (case l_FORMS_put => k_is)
    (case q_FORMS_put => refine ⟨rfl, _, _, rfl, by decide, ?_⟩; repeat (first | exact .nil | refine .cons ⟨_, rfl⟩ ?_))
    (case v_FORMS_get => k_is)
    (case l_FORMS_get => k_is)
    (case q_FORMS_get => refine ⟨rfl, _, _, rfl, by decide, ?_⟩; repeat (first | exact .nil | refine .cons ⟨_, rfl⟩ ?_))
    (case v_FORMS_below => k_is)
    (case l_FORMS_below => k_is)
    (case q_FORMS_below => refine ⟨rfl, _, _, rfl, by decide, ?_⟩; repeat (first | exact .nil | refine .cons ⟨_, rfl⟩ ?_))
    (case v_FORMS_above => k_is)
    (case l_FORMS_above => k_is)
    (case q_FORMS_above => refine ⟨rfl, _, _, rfl, by decide, ?_⟩; repeat (first | exact .nil | refine .cons ⟨_, rfl⟩ ?_))
    (case v_FORMS_bar => k_is)
    (case l_FORMS_bar => k_is)
    (case q_FORMS_bar => refine ⟨rfl, _, _, rfl, by decide, ?_⟩; repeat (first | exact .nil | refine .cons ⟨_, rfl⟩ ?_))
    (case v_FORMS_setbar => k_is)
    (case l_FORMS_setbar => k_is)
    (case q_FORMS_setbar => refine ⟨rfl, _, _, rfl, by decide, ?_⟩; repeat (first | exact .nil | refine .cons ⟨_, rfl⟩ ?_))
    (case v_FORMS_retry => k_is)
    (case l_FORMS_retry => k_is)
    (case q_FORMS_retry => refine ⟨rfl, _, _, rfl, by decide, ?_⟩; repeat (first | exact .nil | refine .cons ⟨_, rfl⟩ ?_))
    (case a_NAMES => k_is)
    (case l_NAMES => k_is)
    (case q_NAMES => refine ⟨rfl, _, _, rfl, by decide, ?_⟩; repeat (first | exact .nil | refine .cons ⟨_, rfl⟩ ?_))
    (case dn_NAMES => rfl)
    (case a_NAME_SHIFT => k_is)
    (case a_POINTER => k_is)
    (case a_SAVED => k_is)
    (case a_STACK => k_is)
    (case z_bool => k_is)
    (case z_int => k_is)
    (case z_isinstance => k_is)
    (case z_len => k_is)
    (case z_range => k_is)
    (case z_tuple => k_is)
    (case z_zip => k_is)

