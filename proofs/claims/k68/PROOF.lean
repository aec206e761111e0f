import PyProof.Rows.All
import Wide.All
import OpenK.AllK
import Wide.FinOn
import HandS.ForMost
import HandS.ForExc
import HandS.Wide
import HandS.IsInst
import HandS.ExcIs
import HandS.WordsExc
import HandS.Property
import HandS.More
import HandS.Codes
import HandS.TupMul
import HandS.Strs
import HandS.SetFor
import HandS.TryOnly
import HandS.Star
import KE.GoesZip
import KE.GoesEnum
import KE.KItemsList
import HandS.Conv
import HandS.TryMany
import HandS.Style
import PySem.Challenge.RW_windowada_k68_banks
set_option Elab.async false
set_option maxRecDepth 100000
set_option maxHeartbeats 4000000
set_option linter.all false
namespace My
open PySem L2
/-! ### helpers -/
def IsTupOf (o : Obj) (xs : List V) : Prop := o.cls = .type "tuple" ∧ ∃ (its : Array Value) (n : Nat), o.data = .seq its n ∧ its.size ≤ sizeLine ∧ Vals xs its.toList
theorem sqT_of {K : PySem.W.Frag} {H : Hp} {a : Addr} {o : Obj} {xs : List V} (h : K.lookup a = some o) (q : IsTupOf o xs) : SqT K H a xs := by
  obtain ⟨c, its, n, d, z, r⟩ := q
  exact .inr ⟨o, its, n, h, c, d, z, r⟩
theorem upd_self {H : Hp} {a : Addr} {o : HO} (h : H a = some o) : upd H a o = H := by
  funext b
  unfold upd
  split
  · rename_i e; rw [e, h]
  · rfl
theorem exm_of {K : PySem.W.Frag} {S C : Addr} (h1 : PySem.W.subIn K (.ref C) (.type "BaseException") = some true) (h2 : PySem.W.isClsIn K C = true) (h3 : PySem.W.typeIn K (.ref C) = some (.type "type")) {b : Bool} (h4 : PySem.W.subIn K (.ref S) (.ref C) = some b) :
    PySem.W.exmOne K (.ref S) (.ref C) = some b := by
  have e1 : (PySem.W.subIn K (.ref C) (.type "BaseException") == some true) = true := by rw [h1] <;> rfl
  have e2 : ((PySem.W.clsIn K C).isSome && PySem.W.typeIn K (.ref C) == some (.type "type")) = true := by
    have h2' : (PySem.W.clsIn K C).isSome = true := h2
    rw [h2', h3] <;> rfl
  show (if (PySem.W.subIn K (.ref C) (.type "BaseException") == some true) = true then (if ((PySem.W.clsIn K C).isSome && PySem.W.typeIn K (.ref C) == some (.type "type")) = true then PySem.W.subIn K (.ref S) (.ref C) else none) else none) = some b
  rw [if_pos e1, if_pos e2]
  exact h4
theorem sN {H H1 : Hp} {p : Addr} {o : HO} (s : Same H H1) (n : H1 p = none) : Same H (upd H1 p o) := fun b u e => by
  rw [upd_ne (ne_of_none (s b u e) n)]
  exact s b u e
theorem seqT {K : PySem.W.Frag} {H H' : Hp} {a : Addr} {xs : List V} (e : Same H H') (h : SqT K H a xs) : SqT K H' a xs := by
  rcases h with (h | ⟨o, h⟩) | h
  · exact .inl (.inl (e _ _ h))
  · exact .inl (.inr ⟨o, e _ _ h⟩)
  · exact .inr h
theorem ite3 {b : Bool} {A B : Prop} (h1 : b = true → A) (h2 : b = false → B) : if b = true then A else B := by
  cases b with
  | true => exact iteT (h1 rfl)
  | false => exact iteF (h2 rfl)
section
variable {X : Cx}
def rInS (K : PySem.W.Frag) : R2 := fun x y H Q => ∃ p xs, y = .ref p ∧ (SqL K H p xs ∨ SqT K H p xs) ∧ flatV x = true ∧ xs.all flatV = true ∧ Q (.bl (inV x xs)) H
def rNotInS (K : PySem.W.Frag) : R2 := fun x y H Q => ∃ p xs, y = .ref p ∧ (SqL K H p xs ∨ SqT K H p xs) ∧ flatV x = true ∧ xs.all flatV = true ∧ Q (.bl (!inV x xs)) H
theorem op_inS : OpR X (compareOp .In) (rInS X.K) := fun pins s σ H x y v u Q I rx ry h => op_in_seq pins s σ H x y v u Q I rx ry h
theorem op_notInS : OpR X (compareOp .NotIn) (rNotInS X.K) := fun pins s σ H x y v u Q I rx ry h => op_notIn_seq pins s σ H x y v u Q I rx ry h
end
theorem at0 {v : V} {r : List V} : atI (v :: r) 0 = some v := atI_nat (j := 0) rfl
theorem sUpd {H H1 : Hp} {p : Addr} {o : HO} (s : Same H H1) (n : H p = none) : Same H (upd H1 p o) := fun b u e => by
  rw [upd_ne (ne_of_none e n)]
  exact s b u e
/-! ### match over a value -/
structure PMC (X : Cx) (cases : List MatchCase) (t : V → TS) : Prop where
  run : ∀ (first : Bool) (pins : List (Addr × Obj)) (s : Shared) (σ : St) (H : Hp) (D : Ends) (x : V) (v : Value), Inv X pins σ H s → RelV x v → t x D σ H → wpAny (model X.prog X.w) X.A (matchCases cases X.env v first) (SP X pins D) X.xe s
def mNil : V → TS := fun _ D σ H => D.nx σ H
def mStr (z : Str) (t : TS) (u : V → TS) : V → TS := fun x D σ H => scal x (.str z) = true ∧ if decide (x = .str z) = true then t D σ H else u x D σ H
def tMatch (te : TE) (t : V → TS) : TS := fun D σ H => te σ H fun x H1 => t x D σ H1
section
variable {X : Cx}
theorem pmc_nil : PMC X [] mNil := ⟨fun _ _ _ σ H D x v I _ h => wpAny_matchCases_nil ⟨σ, H, I, h⟩⟩
theorem pmc_str {z : Str} {j : Nat} {p p2 : Pos} {body : List Stmt} {rest : List MatchCase} {t : TS} {u : V → TS} (hb : PSs X body t) (hr : PMC X rest u) : PMC X (⟨.MatchValue (.Constant (.str z) j p) p2, none, body⟩ :: rest) (mStr z t u) := by
  refine ⟨fun first pins s σ H D x v I r h => ?_⟩
  obtain ⟨hs, h⟩ := h
  refine wpAny_matchCases_cons (wpAny_matchPattern_Value ?_)
  have hz : PE X (.Constant (.str z) j p) (tC (.str z)) := pe_str
  refine thn (hz.run pins s σ H (fun y H1 => y = .str z ∧ H1 = H) I ⟨rfl, rfl⟩) fun w s1 ⟨y, H1, I1, r1, e1, e2⟩ => ?_
  subst e1; subst e2
  refine thn (op_eq pins s1 σ H1 x (.str z) v w (fun y H2 => y = .bl (decide (x = .str z)) ∧ H2 = H1) I1 r r1 ⟨hs, rfl, rfl⟩) fun c s2 ⟨y, H2, I2, r2, e1, e2⟩ => ?_
  subst e1; subst e2
  cases r2
  refine wpAny_truthy_bool ?_
  cases e : decide (x = V.str z) with
  | true =>
    rw [e] at h
    refine wpAny_assignInOrder_none ?_
    exact hb.run pins s2 σ H2 D I2 (by simpa using h)
  | false =>
    rw [e] at h
    exact hr.run false pins s2 σ H2 D x v I2 r (by simpa using h)
theorem ps_match {e : Expr} {cs : List MatchCase} {pos : Pos} {te : TE} {t : V → TS} (he : PE X e te) (hc : PMC X cs t) : PS X (.Match e cs pos) (tMatch te t) := by
  refine ⟨fun pins s σ H D I h => ?_⟩
  exact wpAny_Match (thn (he.run pins s σ H _ I h) fun v s1 ⟨x, H1, I1, r1, q1⟩ => hc.run true pins s1 σ H1 D x v I1 r1 q1)
/-- isinstance(e, c) in a suite, whatever the caught class is -/
def rIsEx (K : PySem.W.Frag) (a : Addr) (cls : Value) (d : Option Addr) : List V → Hp → VK → Prop := fun xs H Q => ∃ D, cls = .ref D ∧ d = none ∧ ExcC K D ∧ rIsE K D a xs H Q
theorem call_isEx {a : Addr} {cls : Value} {d : Option Addr} {oe : Obj} {pn : List (Addr × Obj)} (hz : Zc cls d oe) (hf : ∃ vs, oe.data = .fields vs) : CallR (X.suite a ((a, oe) :: pn)) (.builtin "isinstance") (rIsEx X.K a cls d) := by
  intro pins s σ H xs us Q I r h
  obtain ⟨D, rfl, rfl, C, h⟩ := h
  exact call_isE C hz hf pins s σ H xs us Q I r h
end
theorem kit_self {K : PySem.W.Frag} {D : Addr} : PySem.W.kitOne K (.ref D) (.ref D) = some true := by
  unfold PySem.W.kitOne
  rw [if_pos (by simp)]
theorem kit_no {K : PySem.W.Frag} {D C : Addr} (h : PySem.W.subIn K (.ref D) (.ref C) = some false) (hs : PySem.W.subIn K (.ref C) (.ref C) = some true) (h2 : PySem.W.isClsIn K C = true) (h3 : PySem.W.typeIn K (.ref C) = some (.type "type")) :
    PySem.W.kitOne K (.ref D) (.ref C) = some false := by
  have ne : ¬ ((Value.ref D == Value.ref C) = true) := fun e => by
    have e' : D = C := by simpa using e
    subst e'
    rw [h] at hs
    exact nomatch hs
  have e2 : ((PySem.W.clsIn K C).isSome && PySem.W.typeIn K (.ref C) == some (.type "type")) = true := by
    have h2' : (PySem.W.clsIn K C).isSome = true := h2
    rw [h2', h3] <;> rfl
  unfold PySem.W.kitOne
  rw [if_neg ne]
  show (if ((PySem.W.clsIn K C).isSome && PySem.W.typeIn K (.ref C) == some (.type "type")) = true then PySem.W.subIn K (.ref D) (.ref C) else none) = some false
  rw [if_pos e2]
  exact h
theorem kit_sub {K : PySem.W.Frag} {D C : Addr} {b : Bool} (h : PySem.W.subIn K (.ref D) (.ref C) = some b) (hs : b = false → PySem.W.subIn K (.ref C) (.ref C) = some true) (h2 : PySem.W.isClsIn K C = true) (h3 : PySem.W.typeIn K (.ref C) = some (.type "type")) :
    PySem.W.kitOne K (.ref D) (.ref C) = some b := by
  cases b with
  | false => exact kit_no h (hs rfl) h2 h3
  | true =>
    have e2 : ((PySem.W.clsIn K C).isSome && PySem.W.typeIn K (.ref C) == some (.type "type")) = true := by
      have h2' : (PySem.W.clsIn K C).isSome = true := h2
      rw [h2', h3] <;> rfl
    unfold PySem.W.kitOne
    split
    · rfl
    · show (if ((PySem.W.clsIn K C).isSome && PySem.W.typeIn K (.ref C) == some (.type "type")) = true then PySem.W.subIn K (.ref D) (.ref C) else none) = some true
      rw [if_pos e2]
      exact h
theorem kit_bt {K : PySem.W.Frag} {D : Addr} {n : String} {b : Bool} (hm : PySem.W.kitMeta n = true) (h : PySem.W.subIn K (.ref D) (.type n) = some b) : PySem.W.kitOne K (.ref D) (.type n) = some b := by
  unfold PySem.W.kitOne
  rw [if_neg (by simp)]
  show (if PySem.W.kitMeta n = true then PySem.W.subIn K (.ref D) (.type n) else none) = some b
  rw [if_pos hm]
  exact h
/-! ### a method that may raise, called in a try -/
section
variable {X : Cx} {CX : CXT} {k : Nat} {f C : Addr} {fd : FuncData} {ps : List Str} {sp : Sp} {E : St → XK} {m : Str} {pos apos : Pos} {e o : Expr} {es : List Expr} {ta : TE} {t : TA}
def tMethE (C : Addr) (m : Str) (sp : Sp) (E : St → XK) (ta : TE) (t : TA) : TE := fun σ H Q => ta σ H fun x H1 => ∃ a dx fs, x = .ref a ∧ H1 a = some (.ins C dx fs) ∧ fs.lookup m = none ∧ t σ H1 fun vs H2 => sp (x :: vs) H2 Q (E σ)
theorem pe_methE0 {pl : Sem Bool} (he : PE X o ta) (c : Cls X.K C) (hm : Meth X.K C m f) (F : FnOk X.prog X.w X.K X.mg X.base CX k f fd ps sp) (hr : Room k X.A) (hb : Binds X.K fd ps []) (hx : ∀ σ, PassesAt CX X σ (E σ))
    (ht : eval (.Call (.Attribute o m apos) [] [] pos) X.env = (do
      let ov ← eval o X.env
      standAt apos.atName
      let (f, first) ← holding [ov] (getMethod ov m pl)
      callWith pos f first (backTo pos (starEach [] X.env)) (backToKw pos (keywordEach [] X.env))) := by rfl) :
    PE X (.Call (.Attribute o m apos) [] [] pos) (tMethE C m sp E ta tNil) := by
  refine ⟨fun pins s σ H Q I h => ?_⟩
  refine PySem.W.methodCall_KW (pl := pl) (thn (he.run pins s σ H _ I h) fun u s1 ⟨x, H1, I1, rx, a, dx, fs, ex, ea, l, q⟩ => ?_) ht
  subst ex
  obtain rfl : u = Value.ref a := rx
  refine getmeth_ok I1 ea c hm l ?_
  exact PySem.W.callWith_K0 (first := [.ref a]) I1.kIn hm.kp (run_fnS (us := [.ref a]) (vs := [.ref a]) F hr hb (hx σ) I1 (.cons rfl .nil) q)
theorem pe_methE {pl : Sem Bool} (he : PE X o ta) (c : Cls X.K C) (hm : Meth X.K C m f) (F : FnOk X.prog X.w X.K X.mg X.base CX k f fd ps sp) (hr : Room k X.A) (hb : Binds X.K fd ps []) (hx : ∀ σ, PassesAt CX X σ (E σ)) (ha : PA X (e :: es) t)
    (hst : starEach (e :: es) X.env = (false, eval e X.env) :: starEach es X.env := by rfl) (hpl : (backTo pos (starEach es X.env)).any (·.1) = false := by rfl)
    (ht : eval (.Call (.Attribute o m apos) (e :: es) [] pos) X.env = (do
      let ov ← eval o X.env
      standAt apos.atName
      let (f, first) ← holding [ov] (getMethod ov m pl)
      callWith pos f first (backTo pos (starEach (e :: es) X.env)) (backToKw pos (keywordEach [] X.env))) := by rfl) :
    PE X (.Call (.Attribute o m apos) (e :: es) [] pos) (tMethE C m sp E ta t) := by
  refine ⟨fun pins s σ H Q I h => ?_⟩
  refine PySem.W.methodCall_KW (pl := pl) (thn (he.run pins s σ H _ I h) fun u s1 ⟨x, H1, I1, rx, a, dx, fs, ex, ea, l, q⟩ => ?_) ht
  subst ex
  obtain rfl : u = Value.ref a := rx
  refine getmeth_ok I1 ea c hm l ?_
  refine PySem.W.callWith_K (first := [.ref a]) (h₀ := X.base) I.ok.mod.kin hm.kp (thn (ha.run pos pins s1 σ H1 _ I1 q) fun us s2 ⟨vs, H2, I2, r, q2⟩ => ⟨I2.kIn, ?_⟩) hst hpl
  exact run_fnS (us := .ref a :: us) (vs := .ref a :: vs) F hr hb (hx σ) I2 (.cons rfl r) q2
end
def spNever : Sp := fun _ _ _ _ => False
theorem tyx_tup {K : PySem.W.Frag} {H : Hp} {a : Addr} {xs : List V} (h : SqT K H a xs) : TyX K H (.ref a) (.type "tuple") := by
  rcases h with (h | ⟨o, h⟩) | ⟨o, its, n, hk, hc, _⟩
  · exact .base (.tup h)
  · exact .fTuple h
  · exact .kTuple hk hc

def top (i : Nat) : Stmt := PySem.Challenge.pw_windowada_k68_banks.main.body.getD i (.Pass ⟨0, 0, 0, 0⟩)
abbrev s_Banks___init__ : Stmt := inClass (top 1) 0
abbrev s_Banks_read : Stmt := inClass (top 1) 1
abbrev s_Banks_write : Stmt := inClass (top 1) 2
abbrev s_Banks_shift_down : Stmt := inClass (top 1) 3
abbrev s_Banks_shift_up : Stmt := inClass (top 1) 4
abbrev s_Banks_blocked_down : Stmt := inClass (top 1) 5
abbrev s_Banks_blocked_up : Stmt := inClass (top 1) 6
abbrev s_Banks_set_bar : Stmt := inClass (top 1) 7
abbrev s_Banks_trap_down : Stmt := inClass (top 1) 8
abbrev s_Banks_trap_up : Stmt := inClass (top 1) 9
abbrev s_Banks_leave_trap : Stmt := inClass (top 1) 10
abbrev s_Banks__begin_trap : Stmt := inClass (top 1) 11
abbrev s_Banks__go_down : Stmt := inClass (top 1) 12
abbrev s_Banks__window_below : Stmt := inClass (top 1) 13
abbrev s_Banks__window_above : Stmt := inClass (top 1) 14
abbrev s_law_pick : Stmt := top 3
abbrev s_law_is_integer : Stmt := top 4
abbrev s_law_word : Stmt := top 5
abbrev s_law_find : Stmt := top 6
abbrev s_law_get : Stmt := top 7
abbrev s_law_set : Stmt := top 8
abbrev s_law_move : Stmt := top 9
abbrev s_law_counts : Stmt := top 10
abbrev s_law_reads : Stmt := top 11
abbrev s_law_shift : Stmt := top 12
abbrev s_law_deed : Stmt := top 13
abbrev s_law : Stmt := top 14
theorem sc_Banks___init__ : FnScope ["self", "windows", "_"] ["self", "windows"] (defScope s_Banks___init__) := ⟨rfl, rfl, rfl, by decide +kernel, rfl, by decide +kernel, by decide +kernel⟩
theorem sc_Banks_read : FnScope ["self", "number"] ["self", "number"] (defScope s_Banks_read) := ⟨rfl, rfl, rfl, by decide +kernel, rfl, by decide +kernel, by decide +kernel⟩
theorem sc_Banks_write : FnScope ["self", "number", "word"] ["self", "number", "word"] (defScope s_Banks_write) := ⟨rfl, rfl, rfl, by decide +kernel, rfl, by decide +kernel, by decide +kernel⟩
theorem sc_Banks_shift_down : FnScope ["self"] ["self"] (defScope s_Banks_shift_down) := ⟨rfl, rfl, rfl, by decide +kernel, rfl, by decide +kernel, by decide +kernel⟩
theorem sc_Banks_shift_up : FnScope ["self"] ["self"] (defScope s_Banks_shift_up) := ⟨rfl, rfl, rfl, by decide +kernel, rfl, by decide +kernel, by decide +kernel⟩
theorem sc_Banks_blocked_down : FnScope ["self"] ["self"] (defScope s_Banks_blocked_down) := ⟨rfl, rfl, rfl, by decide +kernel, rfl, by decide +kernel, by decide +kernel⟩
theorem sc_Banks_blocked_up : FnScope ["self"] ["self"] (defScope s_Banks_blocked_up) := ⟨rfl, rfl, rfl, by decide +kernel, rfl, by decide +kernel, by decide +kernel⟩
theorem sc_Banks_set_bar : FnScope ["self", "number"] ["self", "number"] (defScope s_Banks_set_bar) := ⟨rfl, rfl, rfl, by decide +kernel, rfl, by decide +kernel, by decide +kernel⟩
theorem sc_Banks_trap_down : FnScope ["self", "address"] ["self", "address"] (defScope s_Banks_trap_down) := ⟨rfl, rfl, rfl, by decide +kernel, rfl, by decide +kernel, by decide +kernel⟩
theorem sc_Banks_trap_up : FnScope ["self", "address"] ["self", "address"] (defScope s_Banks_trap_up) := ⟨rfl, rfl, rfl, by decide +kernel, rfl, by decide +kernel, by decide +kernel⟩
theorem sc_Banks_leave_trap : FnScope ["self", "address"] ["self"] (defScope s_Banks_leave_trap) := ⟨rfl, rfl, rfl, by decide +kernel, rfl, by decide +kernel, by decide +kernel⟩
theorem sc_Banks__begin_trap : FnScope ["self", "address"] ["self", "address"] (defScope s_Banks__begin_trap) := ⟨rfl, rfl, rfl, by decide +kernel, rfl, by decide +kernel, by decide +kernel⟩
theorem sc_Banks__go_down : FnScope ["self"] ["self"] (defScope s_Banks__go_down) := ⟨rfl, rfl, rfl, by decide +kernel, rfl, by decide +kernel, by decide +kernel⟩
theorem sc_Banks__window_below : FnScope ["self"] ["self"] (defScope s_Banks__window_below) := ⟨rfl, rfl, rfl, by decide +kernel, rfl, by decide +kernel, by decide +kernel⟩
theorem sc_Banks__window_above : FnScope ["self"] ["self"] (defScope s_Banks__window_above) := ⟨rfl, rfl, rfl, by decide +kernel, rfl, by decide +kernel, by decide +kernel⟩
theorem sc_law_pick : FnScope ["state", "limit", "digit", "cell", "mixed"] ["state", "limit"] (defScope s_law_pick) := ⟨rfl, rfl, rfl, by decide +kernel, rfl, by decide +kernel, by decide +kernel⟩
theorem sc_law_is_integer : FnScope ["actual"] ["actual"] (defScope s_law_is_integer) := ⟨rfl, rfl, rfl, by decide +kernel, rfl, by decide +kernel, by decide +kernel⟩
theorem sc_law_word : FnScope ["state", "choice"] ["state"] (defScope s_law_word) := ⟨rfl, rfl, rfl, by decide +kernel, rfl, by decide +kernel, by decide +kernel⟩
theorem sc_law_find : FnScope ["model", "number", "rows"] ["model", "number"] (defScope s_law_find) := ⟨rfl, rfl, rfl, by decide +kernel, rfl, by decide +kernel, by decide +kernel⟩
theorem sc_law_get : FnScope ["model", "number", "found"] ["model", "number"] (defScope s_law_get) := ⟨rfl, rfl, rfl, by decide +kernel, rfl, by decide +kernel, by decide +kernel⟩
theorem sc_law_set : FnScope ["model", "number", "word", "found", "group"] ["model", "number", "word"] (defScope s_law_set) := ⟨rfl, rfl, rfl, by decide +kernel, rfl, by decide +kernel, by decide +kernel⟩
theorem sc_law_move : FnScope ["model", "by", "many"] ["model", "by"] (defScope s_law_move) := ⟨rfl, rfl, rfl, by decide +kernel, rfl, by decide +kernel, by decide +kernel⟩
theorem sc_law_counts : FnScope ["banks", "model", "many", "told", "number", "down", "up", "flag"] ["banks", "model"] (defScope s_law_counts) := ⟨rfl, rfl, rfl, by decide +kernel, rfl, by decide +kernel, by decide +kernel⟩
theorem sc_law_reads : FnScope ["banks", "model", "number", "word"] ["banks", "model"] (defScope s_law_reads) := ⟨rfl, rfl, rfl, by decide +kernel, rfl, by decide +kernel, by decide +kernel⟩
theorem sc_law_shift : FnScope ["state", "banks", "model", "choice", "number", "address", "at", "due", "told"] ["state", "banks", "model", "choice"] (defScope s_law_shift) := ⟨rfl, rfl, rfl, by decide +kernel, rfl, by decide +kernel, by decide +kernel⟩
theorem sc_law_deed : FnScope ["state", "banks", "model", "choice", "number", "word"] ["state", "banks", "model"] (defScope s_law_deed) := ⟨rfl, rfl, rfl, by decide +kernel, rfl, by decide +kernel, by decide +kernel⟩
theorem sc_law : FnScope ["script", "state", "windows", "banks", "model", "k", "turn", "number"] ["script"] (defScope s_law) := ⟨rfl, rfl, rfl, by decide +kernel, rfl, by decide +kernel, by decide +kernel⟩
structure Ad where
  f_Banks___init__ : Addr
  d_Banks___init__ : FuncData
  f_Banks_read : Addr
  d_Banks_read : FuncData
  f_Banks_write : Addr
  d_Banks_write : FuncData
  f_Banks_shift_down : Addr
  d_Banks_shift_down : FuncData
  f_Banks_shift_up : Addr
  d_Banks_shift_up : FuncData
  f_Banks_blocked_down : Addr
  d_Banks_blocked_down : FuncData
  f_Banks_blocked_up : Addr
  d_Banks_blocked_up : FuncData
  f_Banks_set_bar : Addr
  d_Banks_set_bar : FuncData
  f_Banks_trap_down : Addr
  d_Banks_trap_down : FuncData
  f_Banks_trap_up : Addr
  d_Banks_trap_up : FuncData
  f_Banks_leave_trap : Addr
  d_Banks_leave_trap : FuncData
  f_Banks__begin_trap : Addr
  d_Banks__begin_trap : FuncData
  f_Banks__go_down : Addr
  d_Banks__go_down : FuncData
  f_Banks__window_below : Addr
  d_Banks__window_below : FuncData
  f_Banks__window_above : Addr
  d_Banks__window_above : FuncData
  f_law_pick : Addr
  d_law_pick : FuncData
  f_law_is_integer : Addr
  d_law_is_integer : FuncData
  f_law_word : Addr
  d_law_word : FuncData
  f_law_find : Addr
  d_law_find : FuncData
  f_law_get : Addr
  d_law_get : FuncData
  f_law_set : Addr
  d_law_set : FuncData
  f_law_move : Addr
  d_law_move : FuncData
  f_law_counts : Addr
  d_law_counts : FuncData
  f_law_reads : Addr
  d_law_reads : FuncData
  f_law_shift : Addr
  d_law_shift : FuncData
  f_law_deed : Addr
  d_law_deed : FuncData
  f_law : Addr
  d_law : FuncData
  C_Banks : Addr
structure Txt (K : PySem.W.Frag) (mg : Str → Option Value) (a : Ad) : Prop where
  F_Banks___init__ : Fun K "__init__" "Banks.__init__" s_Banks___init__ a.f_Banks___init__ a.d_Banks___init__
  k_Banks___init__ : PySem.W.keepIn K (.ref a.f_Banks___init__) = true
  bd_Banks___init__ : Binds K a.d_Banks___init__ ["self", "windows"] []
  F_Banks_read : Fun K "read" "Banks.read" s_Banks_read a.f_Banks_read a.d_Banks_read
  k_Banks_read : PySem.W.keepIn K (.ref a.f_Banks_read) = true
  bd_Banks_read : Binds K a.d_Banks_read ["self", "number"] []
  F_Banks_write : Fun K "write" "Banks.write" s_Banks_write a.f_Banks_write a.d_Banks_write
  k_Banks_write : PySem.W.keepIn K (.ref a.f_Banks_write) = true
  bd_Banks_write : Binds K a.d_Banks_write ["self", "number", "word"] []
  F_Banks_shift_down : Fun K "shift_down" "Banks.shift_down" s_Banks_shift_down a.f_Banks_shift_down a.d_Banks_shift_down
  k_Banks_shift_down : PySem.W.keepIn K (.ref a.f_Banks_shift_down) = true
  bd_Banks_shift_down : Binds K a.d_Banks_shift_down ["self"] []
  F_Banks_shift_up : Fun K "shift_up" "Banks.shift_up" s_Banks_shift_up a.f_Banks_shift_up a.d_Banks_shift_up
  k_Banks_shift_up : PySem.W.keepIn K (.ref a.f_Banks_shift_up) = true
  bd_Banks_shift_up : Binds K a.d_Banks_shift_up ["self"] []
  F_Banks_blocked_down : Fun K "blocked_down" "Banks.blocked_down" s_Banks_blocked_down a.f_Banks_blocked_down a.d_Banks_blocked_down
  k_Banks_blocked_down : PySem.W.keepIn K (.ref a.f_Banks_blocked_down) = true
  bd_Banks_blocked_down : Binds K a.d_Banks_blocked_down ["self"] []
  F_Banks_blocked_up : Fun K "blocked_up" "Banks.blocked_up" s_Banks_blocked_up a.f_Banks_blocked_up a.d_Banks_blocked_up
  k_Banks_blocked_up : PySem.W.keepIn K (.ref a.f_Banks_blocked_up) = true
  bd_Banks_blocked_up : Binds K a.d_Banks_blocked_up ["self"] []
  F_Banks_set_bar : Fun K "set_bar" "Banks.set_bar" s_Banks_set_bar a.f_Banks_set_bar a.d_Banks_set_bar
  k_Banks_set_bar : PySem.W.keepIn K (.ref a.f_Banks_set_bar) = true
  bd_Banks_set_bar : Binds K a.d_Banks_set_bar ["self", "number"] []
  F_Banks_trap_down : Fun K "trap_down" "Banks.trap_down" s_Banks_trap_down a.f_Banks_trap_down a.d_Banks_trap_down
  k_Banks_trap_down : PySem.W.keepIn K (.ref a.f_Banks_trap_down) = true
  bd_Banks_trap_down : Binds K a.d_Banks_trap_down ["self", "address"] []
  F_Banks_trap_up : Fun K "trap_up" "Banks.trap_up" s_Banks_trap_up a.f_Banks_trap_up a.d_Banks_trap_up
  k_Banks_trap_up : PySem.W.keepIn K (.ref a.f_Banks_trap_up) = true
  bd_Banks_trap_up : Binds K a.d_Banks_trap_up ["self", "address"] []
  F_Banks_leave_trap : Fun K "leave_trap" "Banks.leave_trap" s_Banks_leave_trap a.f_Banks_leave_trap a.d_Banks_leave_trap
  k_Banks_leave_trap : PySem.W.keepIn K (.ref a.f_Banks_leave_trap) = true
  bd_Banks_leave_trap : Binds K a.d_Banks_leave_trap ["self"] []
  F_Banks__begin_trap : Fun K "_begin_trap" "Banks._begin_trap" s_Banks__begin_trap a.f_Banks__begin_trap a.d_Banks__begin_trap
  k_Banks__begin_trap : PySem.W.keepIn K (.ref a.f_Banks__begin_trap) = true
  bd_Banks__begin_trap : Binds K a.d_Banks__begin_trap ["self", "address"] []
  F_Banks__go_down : Fun K "_go_down" "Banks._go_down" s_Banks__go_down a.f_Banks__go_down a.d_Banks__go_down
  k_Banks__go_down : PySem.W.keepIn K (.ref a.f_Banks__go_down) = true
  bd_Banks__go_down : Binds K a.d_Banks__go_down ["self"] []
  F_Banks__window_below : Fun K "_window_below" "Banks._window_below" s_Banks__window_below a.f_Banks__window_below a.d_Banks__window_below
  k_Banks__window_below : PySem.W.keepIn K (.ref a.f_Banks__window_below) = true
  bd_Banks__window_below : Binds K a.d_Banks__window_below ["self"] []
  F_Banks__window_above : Fun K "_window_above" "Banks._window_above" s_Banks__window_above a.f_Banks__window_above a.d_Banks__window_above
  k_Banks__window_above : PySem.W.keepIn K (.ref a.f_Banks__window_above) = true
  bd_Banks__window_above : Binds K a.d_Banks__window_above ["self"] []
  g__law_pick : mg "_law_pick" = some (.ref a.f_law_pick)
  F__law_pick : Fun K "_law_pick" "_law_pick" s_law_pick a.f_law_pick a.d_law_pick
  k__law_pick : PySem.W.keepIn K (.ref a.f_law_pick) = true
  bd__law_pick : Binds K a.d_law_pick ["state", "limit"] []
  g__law_is_integer : mg "_law_is_integer" = some (.ref a.f_law_is_integer)
  F__law_is_integer : Fun K "_law_is_integer" "_law_is_integer" s_law_is_integer a.f_law_is_integer a.d_law_is_integer
  k__law_is_integer : PySem.W.keepIn K (.ref a.f_law_is_integer) = true
  bd__law_is_integer : Binds K a.d_law_is_integer ["actual"] []
  g__law_word : mg "_law_word" = some (.ref a.f_law_word)
  F__law_word : Fun K "_law_word" "_law_word" s_law_word a.f_law_word a.d_law_word
  k__law_word : PySem.W.keepIn K (.ref a.f_law_word) = true
  bd__law_word : Binds K a.d_law_word ["state"] []
  g__law_find : mg "_law_find" = some (.ref a.f_law_find)
  F__law_find : Fun K "_law_find" "_law_find" s_law_find a.f_law_find a.d_law_find
  k__law_find : PySem.W.keepIn K (.ref a.f_law_find) = true
  bd__law_find : Binds K a.d_law_find ["model", "number"] []
  g__law_get : mg "_law_get" = some (.ref a.f_law_get)
  F__law_get : Fun K "_law_get" "_law_get" s_law_get a.f_law_get a.d_law_get
  k__law_get : PySem.W.keepIn K (.ref a.f_law_get) = true
  bd__law_get : Binds K a.d_law_get ["model", "number"] []
  g__law_set : mg "_law_set" = some (.ref a.f_law_set)
  F__law_set : Fun K "_law_set" "_law_set" s_law_set a.f_law_set a.d_law_set
  k__law_set : PySem.W.keepIn K (.ref a.f_law_set) = true
  bd__law_set : Binds K a.d_law_set ["model", "number", "word"] []
  g__law_move : mg "_law_move" = some (.ref a.f_law_move)
  F__law_move : Fun K "_law_move" "_law_move" s_law_move a.f_law_move a.d_law_move
  k__law_move : PySem.W.keepIn K (.ref a.f_law_move) = true
  bd__law_move : Binds K a.d_law_move ["model", "by"] []
  g__law_counts : mg "_law_counts" = some (.ref a.f_law_counts)
  F__law_counts : Fun K "_law_counts" "_law_counts" s_law_counts a.f_law_counts a.d_law_counts
  k__law_counts : PySem.W.keepIn K (.ref a.f_law_counts) = true
  bd__law_counts : Binds K a.d_law_counts ["banks", "model"] []
  g__law_reads : mg "_law_reads" = some (.ref a.f_law_reads)
  F__law_reads : Fun K "_law_reads" "_law_reads" s_law_reads a.f_law_reads a.d_law_reads
  k__law_reads : PySem.W.keepIn K (.ref a.f_law_reads) = true
  bd__law_reads : Binds K a.d_law_reads ["banks", "model"] []
  g__law_shift : mg "_law_shift" = some (.ref a.f_law_shift)
  F__law_shift : Fun K "_law_shift" "_law_shift" s_law_shift a.f_law_shift a.d_law_shift
  k__law_shift : PySem.W.keepIn K (.ref a.f_law_shift) = true
  bd__law_shift : Binds K a.d_law_shift ["state", "banks", "model", "choice"] []
  g__law_deed : mg "_law_deed" = some (.ref a.f_law_deed)
  F__law_deed : Fun K "_law_deed" "_law_deed" s_law_deed a.f_law_deed a.d_law_deed
  k__law_deed : PySem.W.keepIn K (.ref a.f_law_deed) = true
  bd__law_deed : Binds K a.d_law_deed ["state", "banks", "model"] []
  g_law : mg "law" = some (.ref a.f_law)
  F_law : Fun K "law" "law" s_law a.f_law a.d_law
  k_law : PySem.W.keepIn K (.ref a.f_law) = true
  bd_law : Binds K a.d_law ["script"] []
  b_bool : mg "bool" = none
  b_int : mg "int" = none
  b_isinstance : mg "isinstance" = none
  b_len : mg "len" = none
  b_range : mg "range" = none
  g_Banks : mg "Banks" = some (.ref a.C_Banks)
  cl_Banks : Cls K a.C_Banks
  mk_Banks : Mk K a.C_Banks a.f_Banks___init__
  n_Banks_depth : NoAttr K a.C_Banks "depth"
  n_Banks_spills : NoAttr K a.C_Banks "spills"
  n_Banks_fills : NoAttr K a.C_Banks "fills"
  n_Banks_current : NoAttr K a.C_Banks "current"
  n_Banks_barred : NoAttr K a.C_Banks "barred"
  n_Banks__globals : NoAttr K a.C_Banks "_globals"
  n_Banks__windows : NoAttr K a.C_Banks "_windows"
  m_Banks_read : Meth K a.C_Banks "read" a.f_Banks_read
  m_Banks_write : Meth K a.C_Banks "write" a.f_Banks_write
  m_Banks_shift_down : Meth K a.C_Banks "shift_down" a.f_Banks_shift_down
  m_Banks_shift_up : Meth K a.C_Banks "shift_up" a.f_Banks_shift_up
  m_Banks_blocked_down : Meth K a.C_Banks "blocked_down" a.f_Banks_blocked_down
  m_Banks_blocked_up : Meth K a.C_Banks "blocked_up" a.f_Banks_blocked_up
  m_Banks_set_bar : Meth K a.C_Banks "set_bar" a.f_Banks_set_bar
  m_Banks_trap_down : Meth K a.C_Banks "trap_down" a.f_Banks_trap_down
  m_Banks_trap_up : Meth K a.C_Banks "trap_up" a.f_Banks_trap_up
  m_Banks_leave_trap : Meth K a.C_Banks "leave_trap" a.f_Banks_leave_trap
  m_Banks__begin_trap : Meth K a.C_Banks "_begin_trap" a.f_Banks__begin_trap
  m_Banks__go_down : Meth K a.C_Banks "_go_down" a.f_Banks__go_down
  m_Banks__window_below : Meth K a.C_Banks "_window_below" a.f_Banks__window_below
  m_Banks__window_above : Meth K a.C_Banks "_window_above" a.f_Banks__window_above
/-! ### heaps that turn at some places alone -/
def Frm (S : List Addr) (H H' : Hp) : Prop := ∀ b o, H b = some o → b ∉ S → H' b = some o
theorem Frm.refl {S : List Addr} {H : Hp} : Frm S H H := fun _ _ e _ => e
theorem Frm.trans {S : List Addr} {H H1 H2 : Hp} (x : Frm S H H1) (y : Frm S H1 H2) : Frm S H H2 := fun b o e n => y b o (x b o e n) n
theorem Frm.new {S : List Addr} {H H1 : Hp} {p : Addr} {o : HO} (x : Frm S H H1) (n : H1 p = none) : Frm S H (upd H1 p o) := fun b u e m => by
  rw [upd_ne (ne_of_none (x b u e m) n)]; exact x b u e m
theorem Frm.put {S : List Addr} {H H1 : Hp} {p : Addr} {o : HO} (x : Frm S H H1) (m : p ∈ S) : Frm S H (upd H1 p o) := fun b u e h => by
  rw [upd_ne (fun z => h (by rw [z]; exact m))]; exact x b u e h
theorem Frm.mono {S S' : List Addr} {H H1 : Hp} (x : Frm S H H1) (h : ∀ b ∈ S, b ∈ S') : Frm S' H H1 := fun b u e n => x b u e fun z => n (h b z)
theorem Frm.of {S : List Addr} {H H1 : Hp} (x : Same H H1) : Frm S H H1 := fun b u e _ => x b u e
theorem Frm.same {H H1 : Hp} (x : Frm [] H H1) : Same H H1 := fun b u e => x b u e (by simp)
/-- a list that is to be read, whatever turns at b -/
def Apt (K : PySem.W.Frag) (sa : Addr) (xs : List V) (b : Addr) : Prop := b = sa → ∀ H', SqL K H' sa xs
theorem apt_new {K : PySem.W.Frag} {H : Hp} {sa b : Addr} {xs : List V} (h : SqL K H sa xs) (n : H b = none) : Apt K sa xs b := fun e H' => by
  subst e
  rcases h with (h | ⟨o, h⟩) | h
  · rw [n] at h; cases h
  · rw [n] at h; cases h
  · exact .inr h
theorem sq_frm {K : PySem.W.Frag} {S : List Addr} {H H' : Hp} {sa : Addr} {xs : List V} (h : SqL K H sa xs) (f : Frm S H H') (a : ∀ b ∈ S, Apt K sa xs b) : SqL K H' sa xs := by
  by_cases c : sa ∈ S
  · exact a sa c rfl H'
  · rcases h with (h | ⟨o, h⟩) | h
    · exact .inl (.inl (f _ _ h c))
    · exact .inl (.inr ⟨o, f _ _ h c⟩)
    · exact .inr h
/-! ### the draws -/
structure StP (K : PySem.W.Frag) (H : Hp) (st sa : Addr) (ns : List Int) : Prop where
  at' : ∃ i d n : Int, 0 ≤ i ∧ H st = some (.lst [.ref sa, .int i, .int d, .int n])
  sq : SqL K H sa (ns.map V.int)
  ap : Apt K sa (ns.map V.int) st
theorem StP.frm {K : PySem.W.Frag} {S : List Addr} {H H' : Hp} {st sa : Addr} {ns : List Int} (h : StP K H st sa ns) (f : Frm S H H') (n : st ∉ S) (a : ∀ b ∈ S, Apt K sa (ns.map V.int) b) : StP K H' st sa ns := by
  obtain ⟨i, d, k, z, e⟩ := h.at'
  exact ⟨⟨i, d, k, z, f _ _ e n⟩, sq_frm h.sq f a, h.ap⟩
theorem StP.same {K : PySem.W.Frag} {H H' : Hp} {st sa : Addr} {ns : List Int} (h : StP K H st sa ns) (f : Same H H') : StP K H' st sa ns := h.frm (S := []) (fun b o e _ => f b o e) (by simp) (by simp)
theorem StP.put {K : PySem.W.Frag} {H : Hp} {st sa : Addr} {ns : List Int} {i d n : Int} (h : StP K H st sa ns) (z : 0 ≤ i) : StP K (upd H st (.lst [.ref sa, .int i, .int d, .int n])) st sa ns :=
  ⟨⟨i, d, n, z, upd_same⟩, sq_frm h.sq (Frm.put (S := [st]) Frm.refl (by simp)) (fun b hb => by rw [List.mem_singleton.mp hb]; exact h.ap), h.ap⟩
def spPick (K : PySem.W.Frag) : Sp := fun vs H Q _ => ∃ (st sa : Addr) (ns : List Int) (m : Int), vs = [.ref st, .int m] ∧ StP K H st sa ns ∧ 0 < m ∧ m < 2 ^ 62 ∧ ∀ (v : Int) (H' : Hp), 0 ≤ v → v < m → StP K H' st sa ns → Frm [st] H H' → Q (.int v) H'
section
variable {P : Program} {w : World} {K : PySem.W.Frag} {mg : Str → Option Value} {base : Heap} {a : Ad}
theorem ok_law_pick (T : Txt K mg a) : FnOk P w K mg base CX0 1 a.f_law_pick a.d_law_pick ["state", "limit"] (spPick K) := by
  refine T.F__law_pick.ok sc_law_pick (fun vs H Q E h => ?_) (fun cdv A outer s H vs Q E hr h => ?_)
  · obtain ⟨_, _, _, _, rfl, _⟩ := h; rfl
  · obtain ⟨st, sa, ns, m, rfl, S, hm, hm2, q⟩ := h
    have hdv : ∀ i, CDivW i m := fun i => wide_div (b := 62) hm (by omega) (by decide) (by decide)
    have hdv7 : ∀ i, CDivW i 7 := fun i => wide_div (b := 62) (by decide) (by decide) (by decide) (by decide)
    obtain ⟨i, d, n, i0, h1⟩ := S.at'
    refine ⟨_, (pss_cons (ps_asg (pe_op op_add (pe_ix ix_list (pv 0) pe_int (fun _ _ => rfl)) pe_int) (pg_sub (pv 0) pe_int set_list))
      (pss_cons (ps_if (pt_cmpR op_gt (pe_ix ix_list (pv 0) pe_int (fun _ _ => rfl)) pe_int (nomark _)) (pss_cons (ps_set (i := 2) sc_law_pick.nd rfl (Or.inl rfl) (pe_op op_mod (pe_callTy call_int1 (by rfl) T.b_int (by decide +kernel) (pa_cons (pe_ix ix_list (pv 0) pe_int (fun _ _ => rfl)) pa_nil)) (pv 1)))
      (pss_cons (ps_asg (pe_op op_fdivW (pe_ix ix_list (pv 0) pe_int (fun _ _ => rfl)) (pv 1)) (pg_sub (pv 0) pe_int set_list))
      (pss_one (ps_ret (pv 2))))) pss_nil)
      (pss_cons (ps_set (i := 3) sc_law_pick.nd rfl (Or.inl rfl) pe_int)
      (C8.pss_cut (ps_if (pt_cmpR op_lt (pe_ix ix_list (pv 0) pe_int (fun _ _ => rfl)) (pe_callB call_len_seq (by rfl) T.b_len (by decide +kernel) (pa_cons (pe_ix ix_list (pv 0) pe_int (fun _ _ => rfl)) pa_nil)) (nomark _)) (pss_one (ps_set (i := 3) sc_law_pick.nd rfl (Or.inl rfl) (pe_ix ix_list (pe_ix ix_list (pv 0) pe_int (fun _ _ => rfl)) (pe_ix ix_list (pv 0) pe_int (fun _ _ => rfl)) (fun _ _ => rfl)))) pss_nil)
      (pss_cons (ps_asg (pe_op op_add (pe_ix ix_list (pv 0) pe_int (fun _ _ => rfl)) pe_int) (pg_sub (pv 0) pe_int set_list))
      (pss_cons (ps_if (pt_cmpR op_ge (pv 3) (pe_op op_pow pe_int pe_int) (nomark _)) (pss_cons (ps_asg (pe_op op_fdivW (pv 3) (pv 1)) (pg_sub (pv 0) pe_int set_list))
      (pss_one (ps_ret (pe_op op_mod (pe_callTy call_int1 (by rfl) T.b_int (by decide +kernel) (pa_cons (pv 3) pa_nil)) (pv 1))))) pss_nil)
      (pss_cons (ps_set (i := 4) sc_law_pick.nd rfl (Or.inl rfl) (pe_op op_mod (pe_callTy call_int1 (by rfl) T.b_int (by decide +kernel) (pa_cons (pe_op op_add (pe_op op_mul (pe_op op_mod (pe_callTy call_int1 (by rfl) T.b_int (by decide +kernel) (pa_cons (pe_op op_add (pe_op op_add (pe_op op_mul (pv 3) pe_int) (pe_op op_mul (pe_ix ix_list (pv 0) pe_int (fun _ _ => rfl)) pe_int)) pe_int) pa_nil)) pe_int) pe_int) (pe_ix ix_list (pv 0) pe_int (fun _ _ => rfl))) pa_nil)) pe_int))
      (pss_one (ps_ret (pe_op op_mod (pe_callTy call_int1 (by rfl) T.b_int (by decide +kernel) (pa_cons (pe_op op_fdivW (pv 4) pe_int) pa_nil)) (pv 1))))))))))), ?_⟩
    refine ⟨_, rfl, _, _, _, _, rfl, rfl, SqL.of h1, rfl, _, _, rfl, rfl, _, rfl, _, _, _, _, rfl, rfl, h1, rfl, ?_⟩
    have S1 := S.put (d := d) (n := n + 1) i0
    have f1 : Frm [st] H (upd H st (.lst [.ref sa, .int i, .int d, .int (n + 1)])) := Frm.put Frm.refl (by simp)
    have e1 : upd H st (.lst [.ref sa, .int i, .int d, .int (n + 1)]) st = some (.lst [.ref sa, .int i, .int d, .int (n + 1)]) := upd_same
    have nu : ∀ {H2 : Hp} {o : HO}, Frm [st] H H2 → Frm [st] H (upd H2 st o) := fun f => f.put (by simp)
    refine ⟨_, rfl, _, _, _, _, rfl, rfl, SqL.of upd_same, rfl, _, _, rfl, rfl, _, rfl, ite3 (fun c1 => ?_) (fun c1 => ?_)⟩
    · refine ⟨_, rfl, _, _, _, _, rfl, rfl, SqL.of upd_same, rfl, .inl ⟨_, rfl, _, rfl, _, _, rfl, rfl, hm, ?_⟩⟩
      refine ⟨_, rfl, _, _, _, _, rfl, rfl, SqL.of upd_same, rfl, _, rfl, _, _, rfl, rfl, hdv _, _, rfl, _, _, _, _, rfl, rfl, upd_same, rfl, ?_⟩
      exact ⟨_, rfl, q _ _ (Int.emod_nonneg _ (by omega)) (Int.emod_lt_of_pos _ hm) (S1.put i0) (nu f1)⟩
    refine ⟨fun σ H2 => ∃ z : Int, σ = [some (.ref st), some (.int m), none, some (.int z), none] ∧ H2 st = some (.lst [.ref sa, .int i, .int d, .int (n + 1)]) ∧ StP K H2 st sa ns ∧ Frm [st] H H2, ?_, ?_⟩
    · refine ⟨_, rfl, _, _, _, _, rfl, rfl, SqL.of upd_same, rfl, _, rfl, _, _, _, _, rfl, rfl, SqL.of upd_same, rfl, _, _, rfl, .inl S1.sq, _, _, rfl, rfl, _, rfl, ite3 (fun c2 => ?_) (fun c2 => ?_)⟩
      · have hlt : i.toNat < ns.length := by
          have := of_decide_eq_true c2
          simp at this
          omega
        refine ⟨_, rfl, _, _, _, _, rfl, rfl, SqL.of upd_same, rfl, _, rfl, _, _, _, _, rfl, rfl, SqL.of upd_same, rfl, _, _, _, .int (ns[i.toNat]), rfl, rfl, S1.sq, ?_, ?_⟩
        · have hh := atI_nat (j := i.toNat) (xs := ns.map V.int) (v := V.int ns[i.toNat]) (by simp [hlt])
          rwa [show ((i.toNat : Nat) : Int) = i by omega] at hh
        · exact ⟨_, rfl, upd_same, S1, f1⟩
      · exact ⟨0, rfl, upd_same, S1, f1⟩
    · rintro σ H2 ⟨z, rfl, e2, S2, f2⟩
      refine ⟨_, rfl, _, _, _, _, rfl, rfl, SqL.of e2, rfl, _, _, rfl, rfl, _, rfl, _, _, _, _, rfl, rfl, e2, rfl, ?_⟩
      have S3 := S2.put (i := i + 1) (d := d) (n := n + 1) (by omega)
      refine ⟨_, rfl, _, _, rfl, rfl, ⟨by decide, by decide, by decide⟩, _, _, rfl, rfl, _, rfl, ite3 (fun c3 => ?_) (fun c3 => ?_)⟩
      · refine ⟨_, rfl, _, rfl, _, _, rfl, rfl, hdv _, _, rfl, _, _, _, _, rfl, rfl, upd_same, rfl, ?_⟩
        refine ⟨_, rfl, .inl ⟨_, rfl, _, rfl, _, _, rfl, rfl, hm, ?_⟩⟩
        exact q _ _ (Int.emod_nonneg _ (by omega)) (Int.emod_lt_of_pos _ hm) (S3.put (by omega)) (nu (nu f2))
      · refine ⟨_, rfl, _, _, rfl, rfl, .inr (by decide), _, rfl, _, _, _, _, rfl, rfl, SqL.of upd_same, rfl, _, _, rfl, rfl, .inr (by decide), _, _, rfl, rfl, _, _, rfl, rfl, .inl ⟨_, rfl, _, _, rfl, rfl, (by show (0 : Int) < 2147483647; decide), _, _, rfl, rfl, .inr (by decide), _, rfl, _, _, _, _, rfl, rfl, SqL.of upd_same, rfl, _, _, rfl, rfl, .inl ⟨_, rfl, _, _, rfl, rfl, (by show (0 : Int) < 2147483629; decide), ?_⟩⟩⟩
        refine ⟨_, rfl, _, _, rfl, rfl, hdv7 _, .inl ⟨_, rfl, _, rfl, _, _, rfl, rfl, hm, ?_⟩⟩
        exact q _ _ (Int.emod_nonneg _ (by omega)) (Int.emod_lt_of_pos _ hm) S3 (nu f2)
end

/-! ### tags: who owns an address (owner, sort, number) -/
abbrev Tg : Type := Addr → Nat × Nat × Nat
def tgN (τ : Tg) (p : Addr) (x : Nat × Nat × Nat) : Tg := fun b => if b = p then x else τ b
theorem tg_same {τ : Tg} {p : Addr} {x : Nat × Nat × Nat} : tgN τ p x p = x := if_pos rfl
theorem tg_ne {τ : Tg} {p b : Addr} {x : Nat × Nat × Nat} (h : b ≠ p) : tgN τ p x b = τ b := if_neg h
theorem ne_tag {τ : Tg} {p q : Addr} {x y : Nat × Nat × Nat} (h1 : τ p = x) (h2 : τ q = y) (h : x ≠ y) : p ≠ q := fun e => h (by rw [← h1, ← h2, e])
/-- a step that writes at the owners S alone -/
structure Stp (τ τ' : Tg) (S : List Nat) (H H' : Hp) : Prop where
  fr : ∀ b o, H b = some o → (τ b).1 ∉ S → H' b = some o
  ag : ∀ b, H b ≠ none → τ' b = τ b
  al : ∀ b, H b ≠ none → H' b ≠ none
theorem some_ne {H : Hp} {b : Addr} {o : HO} (h : H b = some o) : H b ≠ none := by rw [h]; exact fun z => nomatch z
namespace Stp
variable {τ τ' τ2 : Tg} {S S' : List Nat} {H H' H2 : Hp}
theorem refl : Stp τ τ S H H := ⟨fun _ _ h _ => h, fun _ _ => rfl, fun _ h => h⟩
theorem mono (h : Stp τ τ' S H H') (i : ∀ x ∈ S, x ∈ S') : Stp τ τ' S' H H' := ⟨fun b o e n => h.fr b o e fun m => n (i _ m), h.ag, h.al⟩
theorem tr (x : Stp τ τ' S H H') (y : Stp τ' τ2 S H' H2) : Stp τ τ2 S H H2 :=
  ⟨fun b o e n => y.fr b o (x.fr b o e n) (by rw [x.ag b (some_ne e)]; exact n), fun b e => (y.ag b (x.al b e)).trans (x.ag b e), fun b e => y.al b (x.al b e)⟩
theorem same (h : Same H H') : Stp τ τ S H H' := ⟨fun b o e _ => h b o e, fun _ _ => rfl, fun b e => by
  cases z : H b with
  | none => exact absurd z e
  | some o => exact some_ne (h b o z)⟩
theorem new {p : Addr} {o : HO} {x : Nat × Nat × Nat} (h : Stp τ τ' S H H') (n : H' p = none) : Stp τ (tgN τ' p x) S H (upd H' p o) :=
  h.tr ⟨fun b u e _ => by rw [upd_ne (ne_of_none e n)]; exact e, fun b e => tg_ne fun z => e (by rw [z]; exact n), fun b e => by
    rw [upd_ne fun z => e (by rw [z]; exact n)]; exact e⟩
theorem put {p : Addr} {o : HO} (h : Stp τ τ' S H H') (m : (τ' p).1 ∈ S) : Stp τ τ' S H (upd H' p o) :=
  h.tr ⟨fun b u e n => by rw [upd_ne fun z => n (by rw [z]; exact m)]; exact e, fun _ _ => rfl, fun b e => by
    by_cases z : b = p
    · rw [z, upd_same]; exact fun z => nomatch z
    · rw [upd_ne z]; exact e⟩
theorem at_ {b : Addr} {o : HO} {x : Nat × Nat × Nat} (h : Stp τ τ' S H H') (e : H b = some o) (t : τ b = x) (n : x.1 ∉ S) : H' b = some o ∧ τ' b = x :=
  ⟨h.fr b o e (by rw [t]; exact n), (h.ag b (some_ne e)).trans t⟩
end Stp
/-- H p = o, with its tag -/
def At (τ : Tg) (H : Hp) (p : Addr) (o : HO) (x : Nat × Nat × Nat) : Prop := H p = some o ∧ τ p = x
namespace At
variable {τ τ' : Tg} {S : List Nat} {H H' : Hp} {p q : Addr} {o u : HO} {x y : Nat × Nat × Nat}
theorem st (h : At τ H p o x) (s : Stp τ τ' S H H') (n : x.1 ∉ S) : At τ' H' p o x := s.at_ h.1 h.2 n
theorem put (h : At τ H p o x) (t : τ q = y) (n : x ≠ y) : At τ (upd H q u) p o x := ⟨by rw [upd_ne (ne_tag h.2 t n)]; exact h.1, h.2⟩
theorem set (t : τ p = x) : At τ (upd H p o) p o x := ⟨upd_same, t⟩
theorem new (h : At τ H p o x) (n : H q = none) : At (tgN τ q y) (upd H q u) p o x := ⟨by rw [upd_ne (ne_of_none h.1 n)]; exact h.1, (tg_ne (ne_of_none h.1 n)).trans h.2⟩
theorem mk : At (tgN τ p x) (upd H p o) p o x := ⟨upd_same, tg_same⟩
theorem same (h : At τ H p o x) (s : Same H H') : At τ H' p o x := ⟨s _ _ h.1, h.2⟩
end At
/-! ### the draws' state under tags -/
structure StG (K : PySem.W.Frag) (τ : Tg) (H : Hp) (st sa : Addr) (ns : List Int) : Prop where
  p : StP K H st sa ns
  ts : τ st = (4, 0, 0)
  sg : (∀ H', SqL K H' sa (ns.map V.int)) ∨ (H sa ≠ none ∧ (τ sa).1 = 6)
namespace StG
variable {K : PySem.W.Frag} {τ τ' : Tg} {S : List Nat} {H H' : Hp} {st sa : Addr} {ns : List Int}
theorem step (h : StG K τ H st sa ns) (s : Stp τ τ' S H H') (n4 : 4 ∉ S) (n6 : 6 ∉ S) : StG K τ' H' st sa ns := by
  obtain ⟨i, d, k, z, e⟩ := h.p.at'
  obtain ⟨e', t'⟩ := s.at_ e h.ts n4
  refine ⟨⟨⟨i, d, k, z, e'⟩, ?_, h.p.ap⟩, t', ?_⟩
  · rcases h.sg with g | ⟨g1, g2⟩
    · exact g H'
    · rcases h.p.sq with (q | ⟨o, q⟩) | q
      · exact .inl (.inl (s.fr _ _ q (by rw [g2]; exact n6)))
      · exact .inl (.inr ⟨o, s.fr _ _ q (by rw [g2]; exact n6)⟩)
      · exact .inr q
  · rcases h.sg with g | ⟨g1, g2⟩
    · exact .inl g
    · exact .inr ⟨s.al _ g1, by rw [s.ag _ g1]; exact g2⟩
theorem pick (h : StG K τ H st sa ns) (S' : StP K H' st sa ns) (f : Frm [st] H H') : StG K τ H' st sa ns ∧ Stp τ τ [4] H H' := by
  have al : ∀ b, H b ≠ none → H' b ≠ none := fun b e => by
    by_cases z : b = st
    · obtain ⟨_, _, _, _, e'⟩ := S'.at'
      rw [z]; exact some_ne e'
    · cases q : H b with
      | none => exact absurd q e
      | some o => exact some_ne (f b o q (by simpa using z))
  refine ⟨⟨S', h.ts, ?_⟩, ⟨fun b o e n => f b o e (by
    intro m
    rw [List.mem_singleton.mp m, h.ts] at n
    exact n (List.mem_singleton.mpr rfl)), fun _ _ => rfl, al⟩⟩
  rcases h.sg with g | ⟨g1, g2⟩
  · exact .inl g
  · exact .inr ⟨al _ g1, g2⟩
theorem first {p : Addr} (h : SqL K H sa (ns.map V.int)) (n : H p = none) : StG K (tgN (fun _ => (6, 0, 0)) p (4, 0, 0)) (upd H p (.lst [.ref sa, .int 0, .int 0, .int 0])) p sa ns := by
  have s0 := sN (Same.refl H) n (o := .lst [V.ref sa, V.int 0, V.int 0, V.int 0])
  refine ⟨⟨⟨0, 0, 0, by decide, upd_same⟩, s0.seq h, apt_new h n⟩, tg_same, ?_⟩
  rcases h with (q | ⟨o, q⟩) | q
  · exact .inr ⟨some_ne (s0 _ _ q), by rw [tg_ne (ne_of_none q n)]⟩
  · exact .inr ⟨some_ne (s0 _ _ q), by rw [tg_ne (ne_of_none q n)]⟩
  · exact .inl fun _ => .inr q
end StG
def spPickG (K : PySem.W.Frag) : Sp := fun vs H Q _ => ∃ (τ : Tg) (st sa : Addr) (ns : List Int) (m : Int), vs = [.ref st, .int m] ∧ StG K τ H st sa ns ∧ 0 < m ∧ m < 2 ^ 62 ∧ ∀ (v : Int) (H' : Hp), 0 ≤ v → v < m → StG K τ H' st sa ns → Stp τ τ [4] H H' → Q (.int v) H'
theorem ok_pickG {P : Program} {w : World} {K : PySem.W.Frag} {mg : Str → Option Value} {base : Heap} {a : Ad} (T : Txt K mg a) : FnOk P w K mg base CX0 1 a.f_law_pick a.d_law_pick ["state", "limit"] (spPickG K) :=
  FnOk.imp (ok_law_pick T) fun vs H Q E ⟨τ, st, sa, ns, m, e, S, h1, h2, q⟩ => ⟨st, sa, ns, m, e, S.p, h1, h2, fun v H' v0 v1 S' f => q v H' v0 v1 (S.pick S' f).1 (S.pick S' f).2⟩
theorem Stp.sameN {τ τ' : Tg} {S : List Nat} {H H1 H2 : Hp} {p : Addr} {x : Nat × Nat × Nat} (h : Stp τ τ' S H H1) (s : Same H1 H2) (n : H1 p = none) : Stp τ (tgN τ' p x) S H H2 :=
  h.tr ⟨fun b o e _ => s b o e, fun b e => tg_ne fun z => e (by rw [z]; exact n), (Stp.same (τ := τ) (S := S) s).al⟩
theorem At.sameN {τ : Tg} {H H' : Hp} {p q : Addr} {o : HO} {x y : Nat × Nat × Nat} (h : At τ H p o x) (s : Same H H') (n : H q = none) : At (tgN τ q y) H' p o x := ⟨s _ _ h.1, (tg_ne (ne_of_none h.1 n)).trans h.2⟩
theorem At.in {τ : Tg} {H : Hp} {p : Addr} {o : HO} {x : Nat × Nat × Nat} (e : H p = some o) : At (tgN τ p x) H p o x := ⟨e, tg_same⟩
/-! ### slices -/
theorem cut_lo (xs : List V) (a : Nat) : cutV xs (some (a : Int)) none = xs.drop a := by
  unfold cutV
  rw [HT.sIx_nat, HT.sIx_none]
  by_cases h : a ≤ xs.length
  · rw [Nat.min_eq_left h, List.take_of_length_le (by rw [List.length_drop]; omega)]
  · rw [Nat.min_eq_right (by omega), List.drop_eq_nil_of_le (Nat.le_refl _), List.drop_eq_nil_of_le (show xs.length ≤ a by omega), List.take_nil]
theorem cut_hi (xs : List V) (b : Nat) : cutV xs none (some (b : Int)) = xs.take b := by
  unfold cutV
  rw [HT.sIx_nat, HT.sIx_none, List.drop_zero, Nat.sub_zero]
  by_cases h : b ≤ xs.length
  · rw [Nat.min_eq_left h]
  · rw [Nat.min_eq_right (by omega), List.take_of_length_le (Nat.le_refl _), List.take_of_length_le (show xs.length ≤ b by omega)]
theorem cut_mid (xs : List V) (a b : Nat) (h : a ≤ b) (h2 : b ≤ xs.length) : cutV xs (some (a : Int)) (some (b : Int)) = (xs.drop a).take (b - a) := by
  unfold cutV
  rw [HT.sIx_nat, HT.sIx_nat, Nat.min_eq_left (show a ≤ xs.length by omega), Nat.min_eq_left h2]
theorem rep_int (n : Nat) : (List.replicate n [V.int 0]).flatten = (List.replicate n (0 : Int)).map V.int := by
  induction n with
  | zero => rfl
  | succ n ih => rw [List.replicate_succ, List.flatten_cons, ih, List.replicate_succ]; rfl

/-! ### lists read and written -/
theorem at_map {ys : List Int} {j : Nat} (h : j < ys.length) : (ys.map V.int)[j]? = some (V.int (ys.getD j 0)) := by
  rw [List.getElem?_map, List.getD_eq_getElem?_getD, List.getElem?_eq_getElem h] <;> rfl
theorem ixN_nat {n j : Nat} (h : j < n) : ixN n (j : Int) = some j := by
  unfold ixN
  rw [if_pos (by omega), if_pos (by omega), Int.toNat_natCast]
theorem set_int {ys : List Int} {j : Nat} {w : Int} : (ys.map V.int).set j (V.int w) = (ys.set j w).map V.int := by rw [List.map_set]
theorem rng_at {f : Nat → V} {n k : Nat} (h : k < n) : ((List.range n).map f)[k]? = some (f k) := by simp [h]
theorem rng_len {f : Nat → V} {n : Nat} : ((List.range n).map f).length = n := by simp
theorem rng_drop {f : Nat → V} {n : Nat} : ((List.range (n + 1)).map f).dropLast = (List.range n).map f := by
  rw [List.range_succ, List.map_append]
  exact List.dropLast_concat
theorem rng_up {f g : Nat → V} {n : Nat} (h : ∀ k, k < n → f k = g k) : (List.range n).map f = (List.range n).map g := List.map_congr_left fun k hk => h k (List.mem_range.mp hk)
def upA (f : Nat → Addr) (k : Nat) (y : Addr) : Nat → Addr := fun j => if j = k then y else f j
theorem upA_same {f : Nat → Addr} {k : Nat} {y : Addr} : upA f k y k = y := if_pos rfl
theorem upA_ne {f : Nat → Addr} {k j : Nat} {y : Addr} (h : j ≠ k) : upA f k y j = f j := if_neg h
theorem rng_app {f : Nat → Addr} {n : Nat} {p : Addr} : ((List.range n).map fun k => V.ref (f k)) ++ [V.ref p] = (List.range (n + 1)).map fun k => V.ref (upA f n p k) := by
  rw [List.range_succ, List.map_append]
  congr 1
  · exact rng_up fun k hk => by rw [upA_ne (by omega)]
  · show _ = [V.ref (upA f n p n)]
    rw [upA_same]
theorem sz {n : Nat} (h : n ≤ 900) : n < sizeLine := small1000 (by omega)
theorem mem1 {i : Nat} {x : Nat × Nat × Nat} {τ : Tg} {p : Addr} (h : τ p = x) (e : x.1 = i) : (τ p).1 ∈ [i] := by rw [h, e]; exact List.mem_singleton.mpr rfl

/-! ### xs[lo:hi] = ys -/
section
variable {prog : Program} {w : World} {A : Around} {E : Value → Shared → Prop} {s : Shared}
theorem put_slice {l b z : Addr} {xs ys : Array Value} {n n2 : Nat} {v1 v2 : Value} {lo hi : Option Int} {a c : Nat} {Q : Unit → Shared → Prop} (el : s.heap.get? l = some { cls := .type "list", data := .seq xs n })
    (eb : s.heap.get? b = some { cls := .type "list", data := .seq ys n2 }) (nlb : l ≠ b) (iz : s.heap.IsSliceOf z v1 v2 .none) (p1 : IsPart v1 lo) (p2 : IsPart v2 hi) (ac : a ≤ c) (cn : c ≤ xs.size)
    (bd : sliceBounds lo hi none xs.size = ((a : Int), (c : Int), 1)) (sz1 : xs.size + ys.size ≤ sizeLine) (go : Q () { s with heap := s.heap.update l (Obj.mapSeq fun u => u.extract 0 a ++ ys ++ u.extract c u.size) }) :
    wpAny (model prog w) A (setItem (.ref l) (.ref z) (.ref b)) Q E s := by
  have il : s.heap.IsList l xs := PySem.IsL.isList el
  have ib : s.heap.IsList b ys := PySem.IsL.isList eb
  obtain ⟨oz, ez, cz, dz⟩ := id iz
  have tz : s.TypeIs (.ref z) "slice" := ⟨oz, ez, cz⟩
  have two : Builtin.List.listSameRef (.ref l) (.ref b) = false := by unfold Builtin.List.listSameRef; exact beq_eq_false_iff_ne.mpr nlb
  have mx : (max (a : Int) (c : Int)).toNat = c := by omega
  have fit : ((fun u : Array Value => u.extract 0 a ++ ys ++ u.extract c u.size) xs).size ≤ sizeLine + 1 := by simp only [Array.size_append, Array.size_extract]; omega
  unfold setItem
  try with_reducible refine wpAny_holding ?_
  first | refine wpAny_bind (wpAny_pure ?_) | skip
  refine wpAny_bind (wpAny_sequenceKey il.typeIs (by decide) (wpAny_bind (wpAny_callSpecial?_slot (name := Str.ofString "__setitem__") il.typeIs slot_list_setitem (wpAny_call_entry slot_list_setitem il.typeIs entry_list_setitem ?_ (args_list_setitem _ _ _)))))
  show wpAny _ _ (Builtin.List.listSubscript? (.ref z) >>= _) _ _ s
  refine wpAny_bind ?_; unfold Builtin.List.listSubscript?; refine wpAny_bind (wpAny_specialOf tz slice_no_index ?_)
  simp only [Option.isNone_none, if_true]; refine wpAny_pure ?_
  show wpAny _ _ (typeOf (.ref z) >>= _) _ _ s
  refine wpAny_bind (wpAny_typeOf tz ?_); first | rw [if_neg (by decide)] | refine PySem.W.KFB.if_not (by decide) ?_
  rw [listSliceParts_eq]; refine wpAny_bind (wpAny_bind (wpAny_field ez dz (x := .none) rfl (wpAny_bind (wpAny_listPart .none ?_))))
  rw [if_neg (show ¬ ((rawPart none == rawInt 0) = true) from Bool.false_ne_true)]
  refine wpAny_bind (wpAny_field ez dz (x := v1) rfl (wpAny_bind (wpAny_listPart p1 (wpAny_bind (wpAny_field ez dz (x := v2) rfl (wpAny_bind (wpAny_listPart p2 (wpAny_pure ?_))))))))
  first | simp only [two, Bool.false_eq_true, if_false] | refine PySem.W.KFB.if_not two ?_ | (dsimp only; rw [if_neg (by rw [two]; exact Bool.false_ne_true)])
  refine wpAny_bind (m := Builtin.List.listAllItems (.ref b) "must assign iterable to extended slice") ?_; unfold Builtin.List.listAllItems; refine wpAny_bind (wpAny_typeOf ib.typeIs ?_)
  first | refine PySem.W.KFB.if_so (by decide) ?_ | rw [if_pos (by decide)] | simp only [beq_self_eq_true, Bool.true_or, if_true]
  unfold Builtin.List.listItems; refine wpAny_bind (wpAny_seqItems eb rfl (wpAny_pure (wpAny_bind (wpAny_bind (wpAny_seqItems el rfl (wpAny_pure ?_))))))
  refine wpAny_bind (wpAny_of_eq ((sliceIndices_raw lo hi none xs.size (by simp)).trans (congrArg (pure : Int × Int × Int → Sem (Int × Int × Int)) bd)) ?_)
  show wpAny _ _ (if ((1 : Int) == 1) = true then _ else _) _ _ s; rw [if_pos (by decide)]; refine wpAny_bind (wpAny_rule ?_)
  first | simp only [notLongL sz1, Bool.false_eq_true, if_false] | refine PySem.W.KFB.if_not (notLongL sz1) ?_
  first | refine wpAny_bind (wpAny_pure ?_) | skip
  show wpAny _ _ (updateSeq l (fun u => u.extract 0 ((a : Int)).toNat ++ ys ++ u.extract (max (a : Int) (c : Int)).toNat u.size) >>= _) _ _ s
  rw [mx, Int.toNat_natCast]; refine wpAny_bind (wpAny_updateSeq (hz := Nat.le_trans (Nat.le_add_right _ _) sz1) (_hz' := fit) el rfl (wpAny_bind (wpAny_letGo ?_)))
  first | exact wpAny_bind (wpAny_pure (wpAny_pure ⟨.none, rfl, wpAny_pure go⟩)) | exact wpAny_pure ⟨.none, rfl, wpAny_pure go⟩
end
section
variable {X : Cx}
def gSlc (to : TE) (tl th : TO) : TG := fun v σ H Q => to σ H fun o H1 => tl σ H1 fun lo H2 => th σ H2 fun hi H3 => ∃ (l b : Addr) (xs ys : List V) (i c : Nat), o = .ref l ∧ v = .ref b ∧ H3 l = some (.lst xs) ∧ H3 b = some (.lst ys) ∧ l ≠ b ∧ i ≤ c ∧ c ≤ xs.length ∧
  sliceBounds lo hi none xs.length = ((i : Int), (c : Int), 1) ∧ xs.length + ys.length ≤ sizeLine ∧ Q σ (upd H3 l (.lst (xs.take i ++ ys ++ xs.drop c)))
theorem pg_slc {o : Expr} {lo hi : Option Expr} {p2 pos : Pos} {to : TE} {tl th : TO} (ho : PE X o to) (hl : PO X lo tl) (hh : PO X hi th)
    (ha : ∀ v, assign (.Subscript o (.Slice lo hi none p2) pos) X.env v = (do
      let u ← holding [v] (eval o X.env)
      let y ← holding [v, u] (eval (.Slice lo hi none p2) X.env)
      standAt pos
      holding [v, u, y] (setItem u y v)
      release [y, v, u] []) := by intro _; rfl) : PG X (.Subscript o (.Slice lo hi none p2) pos) (gSlc to tl th) := by
  refine ⟨fun pins s σ H v u Q I r h => ?_⟩
  rw [ha]
  refine wpAny_bind (wpAny_holding (thn (ho.run pins s σ H _ I h) fun ov s1 ⟨x, H1, I1, r1, q1⟩ => ?_))
  refine wpAny_bind (wpAny_holding (wpAny_Slice (thn (hl.run pins s1 σ H1 _ I1 q1) fun vl s2 ⟨k1, H2, I2, pl, q2⟩ => thn (hh.run pins s2 σ H2 _ I2 q2) fun vu s3 ⟨k2, H3, I3, pu, q3⟩ => ?_)))
  rw [evalPart_none]
  refine wpAny_pure ?_
  have I4 : Inv X pins σ H3 { s3 with heap := s3.heap.push { cls := .type "slice", data := .fields #[vl, vu, .none] } } := I3.kept (t' := s3.toks) fun b ob q => Heap.get?_push_of_some _ q
  obtain ⟨l, b, xs, ys, i, c, rfl, rfl, hx, hy, ne, ic, cx, bd, sz1, q⟩ := q3
  obtain rfl : ov = Value.ref l := r1
  obtain rfl : u = Value.ref b := r
  refine wpAny_bind (wpAny_standAt (wpAny_bind (wpAny_holding ?_)))
  obtain ⟨z, its, n, r, el, e⟩ := I4.lstM hx
  obtain ⟨z2, its2, n2, r2, el2, e2⟩ := I4.lstM hy
  refine put_slice (a := i) (c := c) e e2 ne (Heap.IsSliceOf.new ..) pl pu ic (by rw [List.size_toArray]; omega) (by rw [List.size_toArray, ← el]; exact bd) (by rw [List.size_toArray, List.size_toArray]; omega) (wpAny_release ⟨σ, _, ?_, q⟩)
  refine I4.lset (its' := its.take i ++ its2 ++ its.drop c) (t' := s3.toks) hx e (splice_eq its its2 i c) (Vals.append (Vals.append (r.take _) r2) (r.drop _)) (by rw [List.length_append, List.length_append, List.length_take, List.length_drop]; omega)
end

theorem bkf_e0_1 : (("depth" : Str) == "spills") = false := by decide +kernel
theorem bkf_q0_1 : (("depth" : Str) = "spills") = False := by simp only [eq_iff_iff, iff_false]; decide +kernel
theorem bkf_e0_2 : (("depth" : Str) == "fills") = false := by decide +kernel
theorem bkf_q0_2 : (("depth" : Str) = "fills") = False := by simp only [eq_iff_iff, iff_false]; decide +kernel
theorem bkf_e0_3 : (("depth" : Str) == "current") = false := by decide +kernel
theorem bkf_q0_3 : (("depth" : Str) = "current") = False := by simp only [eq_iff_iff, iff_false]; decide +kernel
theorem bkf_e0_4 : (("depth" : Str) == "barred") = false := by decide +kernel
theorem bkf_q0_4 : (("depth" : Str) = "barred") = False := by simp only [eq_iff_iff, iff_false]; decide +kernel
theorem bkf_e0_5 : (("depth" : Str) == "_globals") = false := by decide +kernel
theorem bkf_q0_5 : (("depth" : Str) = "_globals") = False := by simp only [eq_iff_iff, iff_false]; decide +kernel
theorem bkf_e0_6 : (("depth" : Str) == "_windows") = false := by decide +kernel
theorem bkf_q0_6 : (("depth" : Str) = "_windows") = False := by simp only [eq_iff_iff, iff_false]; decide +kernel
theorem bkf_e1_0 : (("spills" : Str) == "depth") = false := by decide +kernel
theorem bkf_q1_0 : (("spills" : Str) = "depth") = False := by simp only [eq_iff_iff, iff_false]; decide +kernel
theorem bkf_e1_2 : (("spills" : Str) == "fills") = false := by decide +kernel
theorem bkf_q1_2 : (("spills" : Str) = "fills") = False := by simp only [eq_iff_iff, iff_false]; decide +kernel
theorem bkf_e1_3 : (("spills" : Str) == "current") = false := by decide +kernel
theorem bkf_q1_3 : (("spills" : Str) = "current") = False := by simp only [eq_iff_iff, iff_false]; decide +kernel
theorem bkf_e1_4 : (("spills" : Str) == "barred") = false := by decide +kernel
theorem bkf_q1_4 : (("spills" : Str) = "barred") = False := by simp only [eq_iff_iff, iff_false]; decide +kernel
theorem bkf_e1_5 : (("spills" : Str) == "_globals") = false := by decide +kernel
theorem bkf_q1_5 : (("spills" : Str) = "_globals") = False := by simp only [eq_iff_iff, iff_false]; decide +kernel
theorem bkf_e1_6 : (("spills" : Str) == "_windows") = false := by decide +kernel
theorem bkf_q1_6 : (("spills" : Str) = "_windows") = False := by simp only [eq_iff_iff, iff_false]; decide +kernel
theorem bkf_e2_0 : (("fills" : Str) == "depth") = false := by decide +kernel
theorem bkf_q2_0 : (("fills" : Str) = "depth") = False := by simp only [eq_iff_iff, iff_false]; decide +kernel
theorem bkf_e2_1 : (("fills" : Str) == "spills") = false := by decide +kernel
theorem bkf_q2_1 : (("fills" : Str) = "spills") = False := by simp only [eq_iff_iff, iff_false]; decide +kernel
theorem bkf_e2_3 : (("fills" : Str) == "current") = false := by decide +kernel
theorem bkf_q2_3 : (("fills" : Str) = "current") = False := by simp only [eq_iff_iff, iff_false]; decide +kernel
theorem bkf_e2_4 : (("fills" : Str) == "barred") = false := by decide +kernel
theorem bkf_q2_4 : (("fills" : Str) = "barred") = False := by simp only [eq_iff_iff, iff_false]; decide +kernel
theorem bkf_e2_5 : (("fills" : Str) == "_globals") = false := by decide +kernel
theorem bkf_q2_5 : (("fills" : Str) = "_globals") = False := by simp only [eq_iff_iff, iff_false]; decide +kernel
theorem bkf_e2_6 : (("fills" : Str) == "_windows") = false := by decide +kernel
theorem bkf_q2_6 : (("fills" : Str) = "_windows") = False := by simp only [eq_iff_iff, iff_false]; decide +kernel
theorem bkf_e3_0 : (("current" : Str) == "depth") = false := by decide +kernel
theorem bkf_q3_0 : (("current" : Str) = "depth") = False := by simp only [eq_iff_iff, iff_false]; decide +kernel
theorem bkf_e3_1 : (("current" : Str) == "spills") = false := by decide +kernel
theorem bkf_q3_1 : (("current" : Str) = "spills") = False := by simp only [eq_iff_iff, iff_false]; decide +kernel
theorem bkf_e3_2 : (("current" : Str) == "fills") = false := by decide +kernel
theorem bkf_q3_2 : (("current" : Str) = "fills") = False := by simp only [eq_iff_iff, iff_false]; decide +kernel
theorem bkf_e3_4 : (("current" : Str) == "barred") = false := by decide +kernel
theorem bkf_q3_4 : (("current" : Str) = "barred") = False := by simp only [eq_iff_iff, iff_false]; decide +kernel
theorem bkf_e3_5 : (("current" : Str) == "_globals") = false := by decide +kernel
theorem bkf_q3_5 : (("current" : Str) = "_globals") = False := by simp only [eq_iff_iff, iff_false]; decide +kernel
theorem bkf_e3_6 : (("current" : Str) == "_windows") = false := by decide +kernel
theorem bkf_q3_6 : (("current" : Str) = "_windows") = False := by simp only [eq_iff_iff, iff_false]; decide +kernel
theorem bkf_e4_0 : (("barred" : Str) == "depth") = false := by decide +kernel
theorem bkf_q4_0 : (("barred" : Str) = "depth") = False := by simp only [eq_iff_iff, iff_false]; decide +kernel
theorem bkf_e4_1 : (("barred" : Str) == "spills") = false := by decide +kernel
theorem bkf_q4_1 : (("barred" : Str) = "spills") = False := by simp only [eq_iff_iff, iff_false]; decide +kernel
theorem bkf_e4_2 : (("barred" : Str) == "fills") = false := by decide +kernel
theorem bkf_q4_2 : (("barred" : Str) = "fills") = False := by simp only [eq_iff_iff, iff_false]; decide +kernel
theorem bkf_e4_3 : (("barred" : Str) == "current") = false := by decide +kernel
theorem bkf_q4_3 : (("barred" : Str) = "current") = False := by simp only [eq_iff_iff, iff_false]; decide +kernel
theorem bkf_e4_5 : (("barred" : Str) == "_globals") = false := by decide +kernel
theorem bkf_q4_5 : (("barred" : Str) = "_globals") = False := by simp only [eq_iff_iff, iff_false]; decide +kernel
theorem bkf_e4_6 : (("barred" : Str) == "_windows") = false := by decide +kernel
theorem bkf_q4_6 : (("barred" : Str) = "_windows") = False := by simp only [eq_iff_iff, iff_false]; decide +kernel
theorem bkf_e5_0 : (("_globals" : Str) == "depth") = false := by decide +kernel
theorem bkf_q5_0 : (("_globals" : Str) = "depth") = False := by simp only [eq_iff_iff, iff_false]; decide +kernel
theorem bkf_e5_1 : (("_globals" : Str) == "spills") = false := by decide +kernel
theorem bkf_q5_1 : (("_globals" : Str) = "spills") = False := by simp only [eq_iff_iff, iff_false]; decide +kernel
theorem bkf_e5_2 : (("_globals" : Str) == "fills") = false := by decide +kernel
theorem bkf_q5_2 : (("_globals" : Str) = "fills") = False := by simp only [eq_iff_iff, iff_false]; decide +kernel
theorem bkf_e5_3 : (("_globals" : Str) == "current") = false := by decide +kernel
theorem bkf_q5_3 : (("_globals" : Str) = "current") = False := by simp only [eq_iff_iff, iff_false]; decide +kernel
theorem bkf_e5_4 : (("_globals" : Str) == "barred") = false := by decide +kernel
theorem bkf_q5_4 : (("_globals" : Str) = "barred") = False := by simp only [eq_iff_iff, iff_false]; decide +kernel
theorem bkf_e5_6 : (("_globals" : Str) == "_windows") = false := by decide +kernel
theorem bkf_q5_6 : (("_globals" : Str) = "_windows") = False := by simp only [eq_iff_iff, iff_false]; decide +kernel
theorem bkf_e6_0 : (("_windows" : Str) == "depth") = false := by decide +kernel
theorem bkf_q6_0 : (("_windows" : Str) = "depth") = False := by simp only [eq_iff_iff, iff_false]; decide +kernel
theorem bkf_e6_1 : (("_windows" : Str) == "spills") = false := by decide +kernel
theorem bkf_q6_1 : (("_windows" : Str) = "spills") = False := by simp only [eq_iff_iff, iff_false]; decide +kernel
theorem bkf_e6_2 : (("_windows" : Str) == "fills") = false := by decide +kernel
theorem bkf_q6_2 : (("_windows" : Str) = "fills") = False := by simp only [eq_iff_iff, iff_false]; decide +kernel
theorem bkf_e6_3 : (("_windows" : Str) == "current") = false := by decide +kernel
theorem bkf_q6_3 : (("_windows" : Str) = "current") = False := by simp only [eq_iff_iff, iff_false]; decide +kernel
theorem bkf_e6_4 : (("_windows" : Str) == "barred") = false := by decide +kernel
theorem bkf_q6_4 : (("_windows" : Str) = "barred") = False := by simp only [eq_iff_iff, iff_false]; decide +kernel
theorem bkf_e6_5 : (("_windows" : Str) == "_globals") = false := by decide +kernel
theorem bkf_q6_5 : (("_windows" : Str) = "_globals") = False := by simp only [eq_iff_iff, iff_false]; decide +kernel
def bkf (x0 : Int) (x1 : Int) (x2 : Int) (x3 : Int) (x4 : Int) (x5 : Addr) (x6 : Addr) : List (Str × V) := [("depth", .int x0), ("spills", .int x1), ("fills", .int x2), ("current", .int x3), ("barred", .int x4), ("_globals", .ref x5), ("_windows", .ref x6)]
theorem bkf_depth (x0 : Int) (x1 : Int) (x2 : Int) (x3 : Int) (x4 : Int) (x5 : Addr) (x6 : Addr) : (bkf x0 x1 x2 x3 x4 x5 x6).lookup ("depth" : Str) = some (V.int x0) := by simp [bkf, List.lookup, bkf]
theorem bkf_spills (x0 : Int) (x1 : Int) (x2 : Int) (x3 : Int) (x4 : Int) (x5 : Addr) (x6 : Addr) : (bkf x0 x1 x2 x3 x4 x5 x6).lookup ("spills" : Str) = some (V.int x1) := by simp [bkf, List.lookup, bkf_e1_0]
theorem bkf_fills (x0 : Int) (x1 : Int) (x2 : Int) (x3 : Int) (x4 : Int) (x5 : Addr) (x6 : Addr) : (bkf x0 x1 x2 x3 x4 x5 x6).lookup ("fills" : Str) = some (V.int x2) := by simp [bkf, List.lookup, bkf_e2_0, bkf_e2_1]
theorem bkf_current (x0 : Int) (x1 : Int) (x2 : Int) (x3 : Int) (x4 : Int) (x5 : Addr) (x6 : Addr) : (bkf x0 x1 x2 x3 x4 x5 x6).lookup ("current" : Str) = some (V.int x3) := by simp [bkf, List.lookup, bkf_e3_0, bkf_e3_1, bkf_e3_2]
theorem bkf_barred (x0 : Int) (x1 : Int) (x2 : Int) (x3 : Int) (x4 : Int) (x5 : Addr) (x6 : Addr) : (bkf x0 x1 x2 x3 x4 x5 x6).lookup ("barred" : Str) = some (V.int x4) := by simp [bkf, List.lookup, bkf_e4_0, bkf_e4_1, bkf_e4_2, bkf_e4_3]
theorem bkf__globals (x0 : Int) (x1 : Int) (x2 : Int) (x3 : Int) (x4 : Int) (x5 : Addr) (x6 : Addr) : (bkf x0 x1 x2 x3 x4 x5 x6).lookup ("_globals" : Str) = some (V.ref x5) := by simp [bkf, List.lookup, bkf_e5_0, bkf_e5_1, bkf_e5_2, bkf_e5_3, bkf_e5_4]
theorem bkf__windows (x0 : Int) (x1 : Int) (x2 : Int) (x3 : Int) (x4 : Int) (x5 : Addr) (x6 : Addr) : (bkf x0 x1 x2 x3 x4 x5 x6).lookup ("_windows" : Str) = some (V.ref x6) := by simp [bkf, List.lookup, bkf_e6_0, bkf_e6_1, bkf_e6_2, bkf_e6_3, bkf_e6_4, bkf_e6_5]
theorem bkf_mread_0 : (("read" : Str) == "depth") = false := by decide +kernel
theorem bkf_mread_1 : (("read" : Str) == "spills") = false := by decide +kernel
theorem bkf_mread_2 : (("read" : Str) == "fills") = false := by decide +kernel
theorem bkf_mread_3 : (("read" : Str) == "current") = false := by decide +kernel
theorem bkf_mread_4 : (("read" : Str) == "barred") = false := by decide +kernel
theorem bkf_mread_5 : (("read" : Str) == "_globals") = false := by decide +kernel
theorem bkf_mread_6 : (("read" : Str) == "_windows") = false := by decide +kernel
theorem bkf_no_read (x0 : Int) (x1 : Int) (x2 : Int) (x3 : Int) (x4 : Int) (x5 : Addr) (x6 : Addr) : (bkf x0 x1 x2 x3 x4 x5 x6).lookup ("read" : Str) = none := by simp [bkf, List.lookup, bkf_mread_0, bkf_mread_1, bkf_mread_2, bkf_mread_3, bkf_mread_4, bkf_mread_5, bkf_mread_6]
theorem bkf_mwrite_0 : (("write" : Str) == "depth") = false := by decide +kernel
theorem bkf_mwrite_1 : (("write" : Str) == "spills") = false := by decide +kernel
theorem bkf_mwrite_2 : (("write" : Str) == "fills") = false := by decide +kernel
theorem bkf_mwrite_3 : (("write" : Str) == "current") = false := by decide +kernel
theorem bkf_mwrite_4 : (("write" : Str) == "barred") = false := by decide +kernel
theorem bkf_mwrite_5 : (("write" : Str) == "_globals") = false := by decide +kernel
theorem bkf_mwrite_6 : (("write" : Str) == "_windows") = false := by decide +kernel
theorem bkf_no_write (x0 : Int) (x1 : Int) (x2 : Int) (x3 : Int) (x4 : Int) (x5 : Addr) (x6 : Addr) : (bkf x0 x1 x2 x3 x4 x5 x6).lookup ("write" : Str) = none := by simp [bkf, List.lookup, bkf_mwrite_0, bkf_mwrite_1, bkf_mwrite_2, bkf_mwrite_3, bkf_mwrite_4, bkf_mwrite_5, bkf_mwrite_6]
theorem bkf_mshift_down_0 : (("shift_down" : Str) == "depth") = false := by decide +kernel
theorem bkf_mshift_down_1 : (("shift_down" : Str) == "spills") = false := by decide +kernel
theorem bkf_mshift_down_2 : (("shift_down" : Str) == "fills") = false := by decide +kernel
theorem bkf_mshift_down_3 : (("shift_down" : Str) == "current") = false := by decide +kernel
theorem bkf_mshift_down_4 : (("shift_down" : Str) == "barred") = false := by decide +kernel
theorem bkf_mshift_down_5 : (("shift_down" : Str) == "_globals") = false := by decide +kernel
theorem bkf_mshift_down_6 : (("shift_down" : Str) == "_windows") = false := by decide +kernel
theorem bkf_no_shift_down (x0 : Int) (x1 : Int) (x2 : Int) (x3 : Int) (x4 : Int) (x5 : Addr) (x6 : Addr) : (bkf x0 x1 x2 x3 x4 x5 x6).lookup ("shift_down" : Str) = none := by simp [bkf, List.lookup, bkf_mshift_down_0, bkf_mshift_down_1, bkf_mshift_down_2, bkf_mshift_down_3, bkf_mshift_down_4, bkf_mshift_down_5, bkf_mshift_down_6]
theorem bkf_mshift_up_0 : (("shift_up" : Str) == "depth") = false := by decide +kernel
theorem bkf_mshift_up_1 : (("shift_up" : Str) == "spills") = false := by decide +kernel
theorem bkf_mshift_up_2 : (("shift_up" : Str) == "fills") = false := by decide +kernel
theorem bkf_mshift_up_3 : (("shift_up" : Str) == "current") = false := by decide +kernel
theorem bkf_mshift_up_4 : (("shift_up" : Str) == "barred") = false := by decide +kernel
theorem bkf_mshift_up_5 : (("shift_up" : Str) == "_globals") = false := by decide +kernel
theorem bkf_mshift_up_6 : (("shift_up" : Str) == "_windows") = false := by decide +kernel
theorem bkf_no_shift_up (x0 : Int) (x1 : Int) (x2 : Int) (x3 : Int) (x4 : Int) (x5 : Addr) (x6 : Addr) : (bkf x0 x1 x2 x3 x4 x5 x6).lookup ("shift_up" : Str) = none := by simp [bkf, List.lookup, bkf_mshift_up_0, bkf_mshift_up_1, bkf_mshift_up_2, bkf_mshift_up_3, bkf_mshift_up_4, bkf_mshift_up_5, bkf_mshift_up_6]
theorem bkf_mblocked_down_0 : (("blocked_down" : Str) == "depth") = false := by decide +kernel
theorem bkf_mblocked_down_1 : (("blocked_down" : Str) == "spills") = false := by decide +kernel
theorem bkf_mblocked_down_2 : (("blocked_down" : Str) == "fills") = false := by decide +kernel
theorem bkf_mblocked_down_3 : (("blocked_down" : Str) == "current") = false := by decide +kernel
theorem bkf_mblocked_down_4 : (("blocked_down" : Str) == "barred") = false := by decide +kernel
theorem bkf_mblocked_down_5 : (("blocked_down" : Str) == "_globals") = false := by decide +kernel
theorem bkf_mblocked_down_6 : (("blocked_down" : Str) == "_windows") = false := by decide +kernel
theorem bkf_no_blocked_down (x0 : Int) (x1 : Int) (x2 : Int) (x3 : Int) (x4 : Int) (x5 : Addr) (x6 : Addr) : (bkf x0 x1 x2 x3 x4 x5 x6).lookup ("blocked_down" : Str) = none := by simp [bkf, List.lookup, bkf_mblocked_down_0, bkf_mblocked_down_1, bkf_mblocked_down_2, bkf_mblocked_down_3, bkf_mblocked_down_4, bkf_mblocked_down_5, bkf_mblocked_down_6]
theorem bkf_mblocked_up_0 : (("blocked_up" : Str) == "depth") = false := by decide +kernel
theorem bkf_mblocked_up_1 : (("blocked_up" : Str) == "spills") = false := by decide +kernel
theorem bkf_mblocked_up_2 : (("blocked_up" : Str) == "fills") = false := by decide +kernel
theorem bkf_mblocked_up_3 : (("blocked_up" : Str) == "current") = false := by decide +kernel
theorem bkf_mblocked_up_4 : (("blocked_up" : Str) == "barred") = false := by decide +kernel
theorem bkf_mblocked_up_5 : (("blocked_up" : Str) == "_globals") = false := by decide +kernel
theorem bkf_mblocked_up_6 : (("blocked_up" : Str) == "_windows") = false := by decide +kernel
theorem bkf_no_blocked_up (x0 : Int) (x1 : Int) (x2 : Int) (x3 : Int) (x4 : Int) (x5 : Addr) (x6 : Addr) : (bkf x0 x1 x2 x3 x4 x5 x6).lookup ("blocked_up" : Str) = none := by simp [bkf, List.lookup, bkf_mblocked_up_0, bkf_mblocked_up_1, bkf_mblocked_up_2, bkf_mblocked_up_3, bkf_mblocked_up_4, bkf_mblocked_up_5, bkf_mblocked_up_6]
theorem bkf_mset_bar_0 : (("set_bar" : Str) == "depth") = false := by decide +kernel
theorem bkf_mset_bar_1 : (("set_bar" : Str) == "spills") = false := by decide +kernel
theorem bkf_mset_bar_2 : (("set_bar" : Str) == "fills") = false := by decide +kernel
theorem bkf_mset_bar_3 : (("set_bar" : Str) == "current") = false := by decide +kernel
theorem bkf_mset_bar_4 : (("set_bar" : Str) == "barred") = false := by decide +kernel
theorem bkf_mset_bar_5 : (("set_bar" : Str) == "_globals") = false := by decide +kernel
theorem bkf_mset_bar_6 : (("set_bar" : Str) == "_windows") = false := by decide +kernel
theorem bkf_no_set_bar (x0 : Int) (x1 : Int) (x2 : Int) (x3 : Int) (x4 : Int) (x5 : Addr) (x6 : Addr) : (bkf x0 x1 x2 x3 x4 x5 x6).lookup ("set_bar" : Str) = none := by simp [bkf, List.lookup, bkf_mset_bar_0, bkf_mset_bar_1, bkf_mset_bar_2, bkf_mset_bar_3, bkf_mset_bar_4, bkf_mset_bar_5, bkf_mset_bar_6]
theorem bkf_mtrap_down_0 : (("trap_down" : Str) == "depth") = false := by decide +kernel
theorem bkf_mtrap_down_1 : (("trap_down" : Str) == "spills") = false := by decide +kernel
theorem bkf_mtrap_down_2 : (("trap_down" : Str) == "fills") = false := by decide +kernel
theorem bkf_mtrap_down_3 : (("trap_down" : Str) == "current") = false := by decide +kernel
theorem bkf_mtrap_down_4 : (("trap_down" : Str) == "barred") = false := by decide +kernel
theorem bkf_mtrap_down_5 : (("trap_down" : Str) == "_globals") = false := by decide +kernel
theorem bkf_mtrap_down_6 : (("trap_down" : Str) == "_windows") = false := by decide +kernel
theorem bkf_no_trap_down (x0 : Int) (x1 : Int) (x2 : Int) (x3 : Int) (x4 : Int) (x5 : Addr) (x6 : Addr) : (bkf x0 x1 x2 x3 x4 x5 x6).lookup ("trap_down" : Str) = none := by simp [bkf, List.lookup, bkf_mtrap_down_0, bkf_mtrap_down_1, bkf_mtrap_down_2, bkf_mtrap_down_3, bkf_mtrap_down_4, bkf_mtrap_down_5, bkf_mtrap_down_6]
theorem bkf_mtrap_up_0 : (("trap_up" : Str) == "depth") = false := by decide +kernel
theorem bkf_mtrap_up_1 : (("trap_up" : Str) == "spills") = false := by decide +kernel
theorem bkf_mtrap_up_2 : (("trap_up" : Str) == "fills") = false := by decide +kernel
theorem bkf_mtrap_up_3 : (("trap_up" : Str) == "current") = false := by decide +kernel
theorem bkf_mtrap_up_4 : (("trap_up" : Str) == "barred") = false := by decide +kernel
theorem bkf_mtrap_up_5 : (("trap_up" : Str) == "_globals") = false := by decide +kernel
theorem bkf_mtrap_up_6 : (("trap_up" : Str) == "_windows") = false := by decide +kernel
theorem bkf_no_trap_up (x0 : Int) (x1 : Int) (x2 : Int) (x3 : Int) (x4 : Int) (x5 : Addr) (x6 : Addr) : (bkf x0 x1 x2 x3 x4 x5 x6).lookup ("trap_up" : Str) = none := by simp [bkf, List.lookup, bkf_mtrap_up_0, bkf_mtrap_up_1, bkf_mtrap_up_2, bkf_mtrap_up_3, bkf_mtrap_up_4, bkf_mtrap_up_5, bkf_mtrap_up_6]
theorem bkf_mleave_trap_0 : (("leave_trap" : Str) == "depth") = false := by decide +kernel
theorem bkf_mleave_trap_1 : (("leave_trap" : Str) == "spills") = false := by decide +kernel
theorem bkf_mleave_trap_2 : (("leave_trap" : Str) == "fills") = false := by decide +kernel
theorem bkf_mleave_trap_3 : (("leave_trap" : Str) == "current") = false := by decide +kernel
theorem bkf_mleave_trap_4 : (("leave_trap" : Str) == "barred") = false := by decide +kernel
theorem bkf_mleave_trap_5 : (("leave_trap" : Str) == "_globals") = false := by decide +kernel
theorem bkf_mleave_trap_6 : (("leave_trap" : Str) == "_windows") = false := by decide +kernel
theorem bkf_no_leave_trap (x0 : Int) (x1 : Int) (x2 : Int) (x3 : Int) (x4 : Int) (x5 : Addr) (x6 : Addr) : (bkf x0 x1 x2 x3 x4 x5 x6).lookup ("leave_trap" : Str) = none := by simp [bkf, List.lookup, bkf_mleave_trap_0, bkf_mleave_trap_1, bkf_mleave_trap_2, bkf_mleave_trap_3, bkf_mleave_trap_4, bkf_mleave_trap_5, bkf_mleave_trap_6]
theorem bkf_m_begin_trap_0 : (("_begin_trap" : Str) == "depth") = false := by decide +kernel
theorem bkf_m_begin_trap_1 : (("_begin_trap" : Str) == "spills") = false := by decide +kernel
theorem bkf_m_begin_trap_2 : (("_begin_trap" : Str) == "fills") = false := by decide +kernel
theorem bkf_m_begin_trap_3 : (("_begin_trap" : Str) == "current") = false := by decide +kernel
theorem bkf_m_begin_trap_4 : (("_begin_trap" : Str) == "barred") = false := by decide +kernel
theorem bkf_m_begin_trap_5 : (("_begin_trap" : Str) == "_globals") = false := by decide +kernel
theorem bkf_m_begin_trap_6 : (("_begin_trap" : Str) == "_windows") = false := by decide +kernel
theorem bkf_no__begin_trap (x0 : Int) (x1 : Int) (x2 : Int) (x3 : Int) (x4 : Int) (x5 : Addr) (x6 : Addr) : (bkf x0 x1 x2 x3 x4 x5 x6).lookup ("_begin_trap" : Str) = none := by simp [bkf, List.lookup, bkf_m_begin_trap_0, bkf_m_begin_trap_1, bkf_m_begin_trap_2, bkf_m_begin_trap_3, bkf_m_begin_trap_4, bkf_m_begin_trap_5, bkf_m_begin_trap_6]
theorem bkf_m_go_down_0 : (("_go_down" : Str) == "depth") = false := by decide +kernel
theorem bkf_m_go_down_1 : (("_go_down" : Str) == "spills") = false := by decide +kernel
theorem bkf_m_go_down_2 : (("_go_down" : Str) == "fills") = false := by decide +kernel
theorem bkf_m_go_down_3 : (("_go_down" : Str) == "current") = false := by decide +kernel
theorem bkf_m_go_down_4 : (("_go_down" : Str) == "barred") = false := by decide +kernel
theorem bkf_m_go_down_5 : (("_go_down" : Str) == "_globals") = false := by decide +kernel
theorem bkf_m_go_down_6 : (("_go_down" : Str) == "_windows") = false := by decide +kernel
theorem bkf_no__go_down (x0 : Int) (x1 : Int) (x2 : Int) (x3 : Int) (x4 : Int) (x5 : Addr) (x6 : Addr) : (bkf x0 x1 x2 x3 x4 x5 x6).lookup ("_go_down" : Str) = none := by simp [bkf, List.lookup, bkf_m_go_down_0, bkf_m_go_down_1, bkf_m_go_down_2, bkf_m_go_down_3, bkf_m_go_down_4, bkf_m_go_down_5, bkf_m_go_down_6]
theorem bkf_m_window_below_0 : (("_window_below" : Str) == "depth") = false := by decide +kernel
theorem bkf_m_window_below_1 : (("_window_below" : Str) == "spills") = false := by decide +kernel
theorem bkf_m_window_below_2 : (("_window_below" : Str) == "fills") = false := by decide +kernel
theorem bkf_m_window_below_3 : (("_window_below" : Str) == "current") = false := by decide +kernel
theorem bkf_m_window_below_4 : (("_window_below" : Str) == "barred") = false := by decide +kernel
theorem bkf_m_window_below_5 : (("_window_below" : Str) == "_globals") = false := by decide +kernel
theorem bkf_m_window_below_6 : (("_window_below" : Str) == "_windows") = false := by decide +kernel
theorem bkf_no__window_below (x0 : Int) (x1 : Int) (x2 : Int) (x3 : Int) (x4 : Int) (x5 : Addr) (x6 : Addr) : (bkf x0 x1 x2 x3 x4 x5 x6).lookup ("_window_below" : Str) = none := by simp [bkf, List.lookup, bkf_m_window_below_0, bkf_m_window_below_1, bkf_m_window_below_2, bkf_m_window_below_3, bkf_m_window_below_4, bkf_m_window_below_5, bkf_m_window_below_6]
theorem bkf_m_window_above_0 : (("_window_above" : Str) == "depth") = false := by decide +kernel
theorem bkf_m_window_above_1 : (("_window_above" : Str) == "spills") = false := by decide +kernel
theorem bkf_m_window_above_2 : (("_window_above" : Str) == "fills") = false := by decide +kernel
theorem bkf_m_window_above_3 : (("_window_above" : Str) == "current") = false := by decide +kernel
theorem bkf_m_window_above_4 : (("_window_above" : Str) == "barred") = false := by decide +kernel
theorem bkf_m_window_above_5 : (("_window_above" : Str) == "_globals") = false := by decide +kernel
theorem bkf_m_window_above_6 : (("_window_above" : Str) == "_windows") = false := by decide +kernel
theorem bkf_no__window_above (x0 : Int) (x1 : Int) (x2 : Int) (x3 : Int) (x4 : Int) (x5 : Addr) (x6 : Addr) : (bkf x0 x1 x2 x3 x4 x5 x6).lookup ("_window_above" : Str) = none := by simp [bkf, List.lookup, bkf_m_window_above_0, bkf_m_window_above_1, bkf_m_window_above_2, bkf_m_window_above_3, bkf_m_window_above_4, bkf_m_window_above_5, bkf_m_window_above_6]
theorem bkf_put_depth (x0 : Int) (x1 : Int) (x2 : Int) (x3 : Int) (x4 : Int) (x5 : Addr) (x6 : Addr) (y : Int) : putF "depth" (V.int y) (bkf x0 x1 x2 x3 x4 x5 x6) = bkf y x1 x2 x3 x4 x5 x6 := by simp [putF, bkf, bkf_q1_0, bkf_q2_0, bkf_q3_0, bkf_q4_0, bkf_q5_0, bkf_q6_0]
theorem bkf_put_spills (x0 : Int) (x1 : Int) (x2 : Int) (x3 : Int) (x4 : Int) (x5 : Addr) (x6 : Addr) (y : Int) : putF "spills" (V.int y) (bkf x0 x1 x2 x3 x4 x5 x6) = bkf x0 y x2 x3 x4 x5 x6 := by simp [putF, bkf, bkf_q0_1, bkf_q2_1, bkf_q3_1, bkf_q4_1, bkf_q5_1, bkf_q6_1]
theorem bkf_put_fills (x0 : Int) (x1 : Int) (x2 : Int) (x3 : Int) (x4 : Int) (x5 : Addr) (x6 : Addr) (y : Int) : putF "fills" (V.int y) (bkf x0 x1 x2 x3 x4 x5 x6) = bkf x0 x1 y x3 x4 x5 x6 := by simp [putF, bkf, bkf_q0_2, bkf_q1_2, bkf_q3_2, bkf_q4_2, bkf_q5_2, bkf_q6_2]
theorem bkf_put_current (x0 : Int) (x1 : Int) (x2 : Int) (x3 : Int) (x4 : Int) (x5 : Addr) (x6 : Addr) (y : Int) : putF "current" (V.int y) (bkf x0 x1 x2 x3 x4 x5 x6) = bkf x0 x1 x2 y x4 x5 x6 := by simp [putF, bkf, bkf_q0_3, bkf_q1_3, bkf_q2_3, bkf_q4_3, bkf_q5_3, bkf_q6_3]
theorem bkf_put_barred (x0 : Int) (x1 : Int) (x2 : Int) (x3 : Int) (x4 : Int) (x5 : Addr) (x6 : Addr) (y : Int) : putF "barred" (V.int y) (bkf x0 x1 x2 x3 x4 x5 x6) = bkf x0 x1 x2 x3 y x5 x6 := by simp [putF, bkf, bkf_q0_4, bkf_q1_4, bkf_q2_4, bkf_q3_4, bkf_q5_4, bkf_q6_4]
theorem bkf_put__globals (x0 : Int) (x1 : Int) (x2 : Int) (x3 : Int) (x4 : Int) (x5 : Addr) (x6 : Addr) (y : Addr) : putF "_globals" (V.ref y) (bkf x0 x1 x2 x3 x4 x5 x6) = bkf x0 x1 x2 x3 x4 y x6 := by simp [putF, bkf, bkf_q0_5, bkf_q1_5, bkf_q2_5, bkf_q3_5, bkf_q4_5, bkf_q6_5]
theorem bkf_put__windows (x0 : Int) (x1 : Int) (x2 : Int) (x3 : Int) (x4 : Int) (x5 : Addr) (x6 : Addr) (y : Addr) : putF "_windows" (V.ref y) (bkf x0 x1 x2 x3 x4 x5 x6) = bkf x0 x1 x2 x3 x4 x5 y := by simp [putF, bkf, bkf_q0_6, bkf_q1_6, bkf_q2_6, bkf_q3_6, bkf_q4_6, bkf_q5_6]
theorem bkf_mk (x0 : Int) (x1 : Int) (x2 : Int) (x3 : Int) (x4 : Int) (x5 : Addr) (x6 : Addr) : putF "_windows" (V.ref x6) (putF "_globals" (V.ref x5) (putF "barred" (V.int x4) (putF "current" (V.int x3) (putF "fills" (V.int x2) (putF "spills" (V.int x1) (putF "depth" (V.int x0) [])))))) = bkf x0 x1 x2 x3 x4 x5 x6 := by simp [putF, bkf, bkf_q0_1, bkf_q0_2, bkf_q0_3, bkf_q0_4, bkf_q0_5, bkf_q0_6, bkf_q1_0, bkf_q1_2, bkf_q1_3, bkf_q1_4, bkf_q1_5, bkf_q1_6, bkf_q2_0, bkf_q2_1, bkf_q2_3, bkf_q2_4, bkf_q2_5, bkf_q2_6, bkf_q3_0, bkf_q3_1, bkf_q3_2, bkf_q3_4, bkf_q3_5, bkf_q3_6, bkf_q4_0, bkf_q4_1, bkf_q4_2, bkf_q4_3, bkf_q4_5, bkf_q4_6, bkf_q5_0, bkf_q5_1, bkf_q5_2, bkf_q5_3, bkf_q5_4, bkf_q5_6, bkf_q6_0, bkf_q6_1, bkf_q6_2, bkf_q6_3, bkf_q6_4, bkf_q6_5]
theorem bkf_len1 (x0 : Int) : (putF "depth" (V.int x0) ([])).length < 1000 := by simp [putF, bkf_q0_1, bkf_q0_2, bkf_q0_3, bkf_q0_4, bkf_q0_5, bkf_q0_6, bkf_q1_0, bkf_q1_2, bkf_q1_3, bkf_q1_4, bkf_q1_5, bkf_q1_6, bkf_q2_0, bkf_q2_1, bkf_q2_3, bkf_q2_4, bkf_q2_5, bkf_q2_6, bkf_q3_0, bkf_q3_1, bkf_q3_2, bkf_q3_4, bkf_q3_5, bkf_q3_6, bkf_q4_0, bkf_q4_1, bkf_q4_2, bkf_q4_3, bkf_q4_5, bkf_q4_6, bkf_q5_0, bkf_q5_1, bkf_q5_2, bkf_q5_3, bkf_q5_4, bkf_q5_6, bkf_q6_0, bkf_q6_1, bkf_q6_2, bkf_q6_3, bkf_q6_4, bkf_q6_5]
theorem bkf_len2 (x0 : Int) (x1 : Int) : (putF "spills" (V.int x1) (putF "depth" (V.int x0) ([]))).length < 1000 := by simp [putF, bkf_q0_1, bkf_q0_2, bkf_q0_3, bkf_q0_4, bkf_q0_5, bkf_q0_6, bkf_q1_0, bkf_q1_2, bkf_q1_3, bkf_q1_4, bkf_q1_5, bkf_q1_6, bkf_q2_0, bkf_q2_1, bkf_q2_3, bkf_q2_4, bkf_q2_5, bkf_q2_6, bkf_q3_0, bkf_q3_1, bkf_q3_2, bkf_q3_4, bkf_q3_5, bkf_q3_6, bkf_q4_0, bkf_q4_1, bkf_q4_2, bkf_q4_3, bkf_q4_5, bkf_q4_6, bkf_q5_0, bkf_q5_1, bkf_q5_2, bkf_q5_3, bkf_q5_4, bkf_q5_6, bkf_q6_0, bkf_q6_1, bkf_q6_2, bkf_q6_3, bkf_q6_4, bkf_q6_5]
theorem bkf_len3 (x0 : Int) (x1 : Int) (x2 : Int) : (putF "fills" (V.int x2) (putF "spills" (V.int x1) (putF "depth" (V.int x0) ([])))).length < 1000 := by simp [putF, bkf_q0_1, bkf_q0_2, bkf_q0_3, bkf_q0_4, bkf_q0_5, bkf_q0_6, bkf_q1_0, bkf_q1_2, bkf_q1_3, bkf_q1_4, bkf_q1_5, bkf_q1_6, bkf_q2_0, bkf_q2_1, bkf_q2_3, bkf_q2_4, bkf_q2_5, bkf_q2_6, bkf_q3_0, bkf_q3_1, bkf_q3_2, bkf_q3_4, bkf_q3_5, bkf_q3_6, bkf_q4_0, bkf_q4_1, bkf_q4_2, bkf_q4_3, bkf_q4_5, bkf_q4_6, bkf_q5_0, bkf_q5_1, bkf_q5_2, bkf_q5_3, bkf_q5_4, bkf_q5_6, bkf_q6_0, bkf_q6_1, bkf_q6_2, bkf_q6_3, bkf_q6_4, bkf_q6_5]
theorem bkf_len4 (x0 : Int) (x1 : Int) (x2 : Int) (x3 : Int) : (putF "current" (V.int x3) (putF "fills" (V.int x2) (putF "spills" (V.int x1) (putF "depth" (V.int x0) ([]))))).length < 1000 := by simp [putF, bkf_q0_1, bkf_q0_2, bkf_q0_3, bkf_q0_4, bkf_q0_5, bkf_q0_6, bkf_q1_0, bkf_q1_2, bkf_q1_3, bkf_q1_4, bkf_q1_5, bkf_q1_6, bkf_q2_0, bkf_q2_1, bkf_q2_3, bkf_q2_4, bkf_q2_5, bkf_q2_6, bkf_q3_0, bkf_q3_1, bkf_q3_2, bkf_q3_4, bkf_q3_5, bkf_q3_6, bkf_q4_0, bkf_q4_1, bkf_q4_2, bkf_q4_3, bkf_q4_5, bkf_q4_6, bkf_q5_0, bkf_q5_1, bkf_q5_2, bkf_q5_3, bkf_q5_4, bkf_q5_6, bkf_q6_0, bkf_q6_1, bkf_q6_2, bkf_q6_3, bkf_q6_4, bkf_q6_5]
theorem bkf_len5 (x0 : Int) (x1 : Int) (x2 : Int) (x3 : Int) (x4 : Int) : (putF "barred" (V.int x4) (putF "current" (V.int x3) (putF "fills" (V.int x2) (putF "spills" (V.int x1) (putF "depth" (V.int x0) ([])))))).length < 1000 := by simp [putF, bkf_q0_1, bkf_q0_2, bkf_q0_3, bkf_q0_4, bkf_q0_5, bkf_q0_6, bkf_q1_0, bkf_q1_2, bkf_q1_3, bkf_q1_4, bkf_q1_5, bkf_q1_6, bkf_q2_0, bkf_q2_1, bkf_q2_3, bkf_q2_4, bkf_q2_5, bkf_q2_6, bkf_q3_0, bkf_q3_1, bkf_q3_2, bkf_q3_4, bkf_q3_5, bkf_q3_6, bkf_q4_0, bkf_q4_1, bkf_q4_2, bkf_q4_3, bkf_q4_5, bkf_q4_6, bkf_q5_0, bkf_q5_1, bkf_q5_2, bkf_q5_3, bkf_q5_4, bkf_q5_6, bkf_q6_0, bkf_q6_1, bkf_q6_2, bkf_q6_3, bkf_q6_4, bkf_q6_5]
theorem bkf_len6 (x0 : Int) (x1 : Int) (x2 : Int) (x3 : Int) (x4 : Int) (x5 : Addr) : (putF "_globals" (V.ref x5) (putF "barred" (V.int x4) (putF "current" (V.int x3) (putF "fills" (V.int x2) (putF "spills" (V.int x1) (putF "depth" (V.int x0) ([]))))))).length < 1000 := by simp [putF, bkf_q0_1, bkf_q0_2, bkf_q0_3, bkf_q0_4, bkf_q0_5, bkf_q0_6, bkf_q1_0, bkf_q1_2, bkf_q1_3, bkf_q1_4, bkf_q1_5, bkf_q1_6, bkf_q2_0, bkf_q2_1, bkf_q2_3, bkf_q2_4, bkf_q2_5, bkf_q2_6, bkf_q3_0, bkf_q3_1, bkf_q3_2, bkf_q3_4, bkf_q3_5, bkf_q3_6, bkf_q4_0, bkf_q4_1, bkf_q4_2, bkf_q4_3, bkf_q4_5, bkf_q4_6, bkf_q5_0, bkf_q5_1, bkf_q5_2, bkf_q5_3, bkf_q5_4, bkf_q5_6, bkf_q6_0, bkf_q6_1, bkf_q6_2, bkf_q6_3, bkf_q6_4, bkf_q6_5]

/-! ### banks, in plain terms -/
def upF (f : Nat → List Int) (k : Nat) (y : List Int) : Nat → List Int := fun j => if j = k then y else f j
theorem upF_same {f : Nat → List Int} {k : Nat} {y : List Int} : upF f k y k = y := if_pos rfl
theorem upF_ne {f : Nat → List Int} {k j : Nat} {y : List Int} (h : j ≠ k) : upF f k y j = f j := if_neg h
structure Bk where
  G : List Int
  W : Nat → List Int
  N : Nat
  c : Nat
  bar : Int
  d : Int
  s : Int
  f : Int
namespace Bk
structure ok (B : Bk) : Prop where
  g : B.G.length = 8
  w : ∀ k, (B.W k).length = 16
  n3 : 3 ≤ B.N
  n32 : B.N ≤ 32
  cn : B.c < B.N
def lo (B : Bk) : Nat := if B.c = 0 then B.N - 1 else B.c - 1
def hi (B : Bk) : Nat := if B.c + 1 = B.N then 0 else B.c + 1
def rowOf (B : Bk) (j : Nat) : Nat := if j < 16 then B.lo else B.c
def ofs (j : Nat) : Nat := if j < 16 then j else j - 16
def rd (B : Bk) (j : Nat) : Int := if j < 8 then B.G.getD j 0 else (B.W (B.rowOf j)).getD (ofs j) 0
def wr (B : Bk) (j : Nat) (x : Int) : Bk := if j = 0 then B else if j < 8 then { B with G := B.G.set j x } else { B with W := upF B.W (B.rowOf j) ((B.W (B.rowOf j)).set (ofs j) x) }
def zero (n : Nat) : Bk := ⟨List.replicate 8 0, fun _ => List.replicate 16 0, n, 0, 1, 0, 0, 0⟩
def gd (B : Bk) : Bk := { B with c := B.lo, d := B.d + 1 }
def up (B : Bk) : Bk := { B with c := B.hi, d := B.d - 1 }
def zp (i n : Nat) (xs : List Int) : List Int := xs.take i ++ (List.replicate n 0 ++ xs.drop (i + n))
def clr (B : Bk) (k : Nat) : Bk := { B with W := upF (upF B.W B.lo (zp 8 (min k 8) (B.W B.lo))) B.c (zp 0 (k - 8) (B.W B.c)) }
def dn (B : Bk) : Bk := if B.gd.bar = -1 then B.gd else B.gd.clr 16
def sb (B : Bk) (n : Int) : Bk := { B with bar := n }
def bt (B : Bk) (x : Int) : Bk := B.gd.wr 17 x
def td (B : Bk) (x : Int) : Bk := bt { B with s := B.s + 1 } x
def tu (B : Bk) (x : Int) : Bk := bt { B with f := B.f + 1 } x
variable {B : Bk}
theorem ok.lo (h : B.ok) : B.lo < B.N := by have := h.n3; have := h.cn; unfold Bk.lo; split <;> omega
theorem ok.hi (h : B.ok) : B.hi < B.N := by have := h.n3; have := h.cn; unfold Bk.hi; split <;> omega
theorem ok.lc (h : B.ok) : B.lo ≠ B.c := by have := h.n3; have := h.cn; unfold Bk.lo; split <;> omega
theorem ok.row (h : B.ok) (j : Nat) : B.rowOf j < B.N := by
  unfold rowOf; split
  · exact h.lo
  · exact h.cn
theorem ofs_lt {j : Nat} (h : j < 32) : ofs j < 16 := by unfold ofs; split <;> omega
theorem lo_int (h : B.ok) : ((B.c : Int) - 1) % (B.N : Int) = (B.lo : Int) := by
  have := h.n3; have := h.cn
  unfold Bk.lo
  split
  · rename_i e
    rw [e, show ((0 : Nat) : Int) - 1 = -1 from rfl, ← Int.add_mul_emod_self_left (-1) (B.N : Int) 1, Int.emod_eq_of_lt (by omega) (by omega)]
    omega
  · rw [Int.emod_eq_of_lt (by omega) (by omega)]; omega
theorem lo_int2 (h : B.ok) : ((B.c : Int) + (B.N : Int) + -1) % (B.N : Int) = (B.lo : Int) := by
  rw [← lo_int h, show (B.c : Int) + (B.N : Int) + -1 = ((B.c : Int) - 1) + (B.N : Int) * 1 by omega, Int.add_mul_emod_self_left]
theorem hi_int (h : B.ok) : ((B.c : Int) + 1) % (B.N : Int) = (B.hi : Int) := by
  have := h.n3; have := h.cn
  unfold Bk.hi
  split
  · rename_i e
    rw [show (B.c : Int) + 1 = (B.N : Int) by omega, Int.emod_self]; rfl
  · rw [Int.emod_eq_of_lt (by omega) (by omega)]; omega
theorem hi_int2 (h : B.ok) : ((B.c : Int) + (B.N : Int) + 1) % (B.N : Int) = (B.hi : Int) := by
  rw [← hi_int h, show (B.c : Int) + (B.N : Int) + 1 = ((B.c : Int) + 1) + (B.N : Int) * 1 by omega, Int.add_mul_emod_self_left]
theorem zp_len {i n : Nat} {xs : List Int} (h : i + n ≤ xs.length) : (zp i n xs).length = xs.length := by simp [zp]; omega
theorem zp0 {i : Nat} {xs : List Int} : zp i 0 xs = xs := by simp [zp]
theorem zp_set {i n : Nat} {xs : List Int} (h : i + n < xs.length) : (zp i n xs).set (i + n) 0 = zp i (n + 1) xs := by
  unfold zp
  have e1 : (xs.take i).length = i := by rw [List.length_take]; omega
  rw [List.set_append_right _ _ (by rw [e1]; omega), e1, List.set_append_right _ _ (by simp), List.length_replicate, show i + n - i - n = 0 by omega, List.drop_eq_getElem_cons h, List.set_cons_zero, List.replicate_succ', List.append_assoc]
  rfl
theorem zero_ok {n : Nat} (h1 : 3 ≤ n) (h2 : n ≤ 32) : (zero n).ok := ⟨rfl, fun _ => rfl, h1, h2, by show 0 < n; omega⟩
theorem upF_len {f : Nat → List Int} {k : Nat} {y : List Int} (h : ∀ k, (f k).length = 16) (hy : y.length = 16) : ∀ j, (upF f k y j).length = 16 := fun j => by
  unfold upF; split
  · exact hy
  · exact h j
theorem ok.gd (h : B.ok) : B.gd.ok := ⟨h.g, h.w, h.n3, h.n32, h.lo⟩
theorem ok.up (h : B.ok) : B.up.ok := ⟨h.g, h.w, h.n3, h.n32, h.hi⟩
theorem ok.sb (h : B.ok) (n : Int) : (B.sb n).ok := ⟨h.g, h.w, h.n3, h.n32, h.cn⟩
theorem ok.wr (h : B.ok) (j : Nat) (x : Int) : (B.wr j x).ok := by
  unfold Bk.wr
  split
  · exact h
  split
  · exact ⟨by simp [h.g], h.w, h.n3, h.n32, h.cn⟩
  · exact ⟨h.g, upF_len h.w (by simp [h.w]), h.n3, h.n32, h.cn⟩
theorem ok.clr (h : B.ok) {k : Nat} (hk : k ≤ 16) : (B.clr k).ok := ⟨h.g, upF_len (upF_len h.w (by rw [zp_len (by rw [h.w]; omega)]; exact h.w _)) (by rw [zp_len (by rw [h.w]; omega)]; exact h.w _), h.n3, h.n32, h.cn⟩
theorem ok.dn (h : B.ok) : B.dn.ok := by
  unfold Bk.dn
  split
  · exact h.gd
  · exact h.gd.clr (by decide)
theorem ok.td (h : B.ok) (x : Int) : (B.td x).ok := ok.wr (ok.gd (B := { B with s := B.s + 1 }) ⟨h.g, h.w, h.n3, h.n32, h.cn⟩) 17 x
theorem ok.tu (h : B.ok) (x : Int) : (B.tu x).ok := ok.wr (ok.gd (B := { B with f := B.f + 1 }) ⟨h.g, h.w, h.n3, h.n32, h.cn⟩) 17 x
theorem wr_N (j : Nat) (x : Int) : (B.wr j x).N = B.N := by
  unfold Bk.wr
  repeat' split
  all_goals rfl
theorem clr0 : B.clr 0 = B := by
  unfold Bk.clr
  have e : upF (upF B.W B.lo (zp 8 (min 0 8) (B.W B.lo))) B.c (zp 0 (0 - 8) (B.W B.c)) = B.W := by
    funext j
    rw [show min 0 8 = 0 from rfl, show 0 - 8 = 0 from rfl, zp0, zp0]
    unfold upF
    split
    · rename_i e; rw [e]
    split
    · rename_i e; rw [e]
    · rfl
  rw [e]
theorem upF_upF {f : Nat → List Int} {k : Nat} {x y : List Int} : upF (upF f k x) k y = upF f k y := by
  funext j; unfold upF; split <;> rfl
theorem upF_comm {f : Nat → List Int} {k l : Nat} {x y : List Int} (h : k ≠ l) : upF (upF f k x) l y = upF (upF f l y) k x := by
  funext j; unfold upF
  by_cases a : j = k
  · subst a; rw [if_neg h, if_pos rfl, if_pos rfl]
  · rw [if_neg a]; by_cases b : j = l
    · simp [a, b, Ne.symm h]
    · simp [a, b, Ne.symm h]
theorem clr_wr (h : B.ok) {k : Nat} (hk : k < 16) : (B.clr k).wr (8 + k) 0 = B.clr (k + 1) := by
  have hlc := h.lc
  unfold Bk.wr
  rw [if_neg (by omega), if_neg (by omega)]
  by_cases c : k < 8
  · have er : (B.clr k).rowOf (8 + k) = B.lo := if_pos (by omega)
    rw [er, show ofs (8 + k) = 8 + k from if_pos (by omega)]
    unfold Bk.clr
    dsimp only
    rw [upF_ne hlc, upF_same, show min k 8 = k by omega, show min (k + 1) 8 = k + 1 by omega, show k - 8 = 0 by omega, show k + 1 - 8 = 0 by omega, zp_set (by rw [h.w]; omega), upF_comm (Ne.symm hlc), upF_upF]
  · have er : (B.clr k).rowOf (8 + k) = B.c := if_neg (by omega)
    obtain ⟨m, rfl⟩ : ∃ m, k = 8 + m := ⟨k - 8, by omega⟩
    rw [er, show ofs (8 + (8 + m)) = 0 + m from (if_neg (by omega)).trans (by omega)]
    unfold Bk.clr
    dsimp only
    rw [upF_same, show min (8 + m) 8 = 8 by omega, show min (8 + m + 1) 8 = 8 by omega, show 8 + m - 8 = m by omega, show 8 + m + 1 - 8 = m + 1 by omega, zp_set (by rw [h.w]; omega), upF_upF]
end Bk
/-! ### the class -/
structure BWx (C : Addr) (τ : Tg) (i : Nat) (H : Hp) (t dx gl wn : Addr) (wr : Nat → Addr) (B : Bk) : Prop where
  ob : At τ H t (.ins C dx (bkf B.d B.s B.f B.c B.bar gl wn)) (i, 0, 0)
  g : At τ H gl (.lst (B.G.map V.int)) (i, 1, 0)
  w : At τ H wn (.lst ((List.range B.N).map fun k => V.ref (wr k))) (i, 2, 0)
  r : ∀ k, k < B.N → At τ H (wr k) (.lst ((B.W k).map V.int)) (i, 3, k)
def BW (C : Addr) (τ : Tg) (i : Nat) (H : Hp) (t : Addr) (B : Bk) : Prop := ∃ dx gl wn wr, BWx C τ i H t dx gl wn wr B
theorem BW.st {C : Addr} {τ τ' : Tg} {i : Nat} {H H' : Hp} {t : Addr} {B : Bk} {S : List Nat} (h : BW C τ i H t B) (s : Stp τ τ' S H H') (n : i ∉ S) : BW C τ' i H' t B := by
  obtain ⟨dx, gl, wn, wr, x⟩ := h
  exact ⟨dx, gl, wn, wr, x.ob.st s n, x.g.st s n, x.w.st s n, fun k hk => (x.r k hk).st s n⟩
/-- a field is set -/
theorem BWx.fld {C : Addr} {τ : Tg} {i : Nat} {H : Hp} {t dx gl wn : Addr} {wr : Nat → Addr} {B B' : Bk} (h : BWx C τ i H t dx gl wn wr B) (eG : B'.G = B.G) (eW : B'.W = B.W) (eN : B'.N = B.N) :
    BWx C τ i (upd H t (.ins C dx (bkf B'.d B'.s B'.f B'.c B'.bar gl wn))) t dx gl wn wr B' := by
  refine ⟨.set h.ob.2, ?_, ?_, fun k hk => ?_⟩
  · rw [eG]; exact h.g.put h.ob.2 (by simp)
  · rw [eN]; exact h.w.put h.ob.2 (by simp)
  · rw [eN] at hk; rw [eW]; exact (h.r k hk).put h.ob.2 (by simp)
/-- a row is set -/
theorem BWx.row {C : Addr} {τ : Tg} {i : Nat} {H : Hp} {t dx gl wn : Addr} {wr : Nat → Addr} {B : Bk} (h : BWx C τ i H t dx gl wn wr B) {k : Nat} (hk : k < B.N) (y : List Int) :
    BWx C τ i (upd H (wr k) (.lst (y.map V.int))) t dx gl wn wr { B with W := upF B.W k y } := by
  have hx := h.r k hk
  refine ⟨h.ob.put hx.2 (by simp), h.g.put hx.2 (by simp), h.w.put hx.2 (by simp), fun l hl => ?_⟩
  show At _ _ _ (.lst ((upF B.W k y l).map V.int)) _
  by_cases c : l = k
  · subst c; rw [upF_same]; exact .set hx.2
  · rw [upF_ne c]; exact (h.r l hl).put hx.2 (by simp [c])
theorem BWx.glb {C : Addr} {τ : Tg} {i : Nat} {H : Hp} {t dx gl wn : Addr} {wr : Nat → Addr} {B : Bk} (h : BWx C τ i H t dx gl wn wr B) (y : List Int) :
    BWx C τ i (upd H gl (.lst (y.map V.int))) t dx gl wn wr { B with G := y } :=
  ⟨h.ob.put h.g.2 (by simp), .set h.g.2, h.w.put h.g.2 (by simp), fun k hk => (h.r k hk).put h.g.2 (by simp)⟩
def spBI (C : Addr) : Sp := fun vs H Q _ => ∃ (τ : Tg) (i : Nat) (t dx : Addr) (n : Nat), vs = [.ref t, .int n] ∧ 3 ≤ n ∧ n ≤ 32 ∧ At τ H t (.ins C dx []) (i, 0, 0) ∧ ∀ τ' H', BW C τ' i H' t (.zero n) → Stp τ τ' [i] H H' → Q .non H'
/-- a method that gives a value -/
def spBV (C : Addr) (val : Bk → V) : Sp := fun vs H Q _ => ∃ (τ : Tg) (i : Nat) (t : Addr) (B : Bk), vs = [.ref t] ∧ BW C τ i H t B ∧ B.ok ∧ Q (val B) H
def spBR (C : Addr) : Sp := fun vs H Q _ => ∃ (τ : Tg) (i : Nat) (t : Addr) (B : Bk) (j : Nat), vs = [.ref t, .int j] ∧ BW C τ i H t B ∧ B.ok ∧ j < 32 ∧ Q (.int (B.rd j)) H
def spBWr (C : Addr) : Sp := fun vs H Q _ => ∃ (τ : Tg) (i : Nat) (t : Addr) (B : Bk) (j : Nat) (x : Int), vs = [.ref t, .int j, .int x] ∧ BW C τ i H t B ∧ B.ok ∧ j < 32 ∧ ∀ H', BW C τ i H' t (B.wr j x) → Stp τ τ [i] H H' → Q .non H'
/-- a method that changes the banks -/
def spBC (C : Addr) (f : Bk → Bk) (val : Bk → V) : Sp := fun vs H Q _ => ∃ (τ : Tg) (i : Nat) (t : Addr) (B : Bk), vs = [.ref t] ∧ BW C τ i H t B ∧ B.ok ∧ ∀ H', BW C τ i H' t (f B) → Stp τ τ [i] H H' → Q (val B) H'
def spBA (C : Addr) (f : Bk → Int → Bk) : Sp := fun vs H Q _ => ∃ (τ : Tg) (i : Nat) (t : Addr) (B : Bk) (x : Int), vs = [.ref t, .int x] ∧ BW C τ i H t B ∧ B.ok ∧ ∀ H', BW C τ i H' t (f B x) → Stp τ τ [i] H H' → Q .non H'

section
variable {P : Program} {w : World} {K : PySem.W.Frag} {mg : Str → Option Value} {base : Heap} {a : Ad}
theorem ok_Banks__window_below (T : Txt K mg a) : FnOk P w K mg base CX0 1 a.f_Banks__window_below a.d_Banks__window_below ["self"] (spBV a.C_Banks fun B => .int B.lo) := by
  refine T.F_Banks__window_below.ok sc_Banks__window_below (fun vs H Q E h => ?_) (fun cdv A outer s H vs Q E hr h => ?_)
  · obtain ⟨_, _, _, _, rfl, _⟩ := h; rfl
  · obtain ⟨τ, i, t, B, rfl, ⟨dx, gl, wn, wr, W⟩, ho, q⟩ := h
    refine ⟨_, (pss_one (ps_ret (pe_op op_mod (pe_op op_sub (pe_fld (pv 0) rfl) pe_int) (pe_callB call_len_seq (by rfl) T.b_len (by decide +kernel) (pa_cons (pe_fld (pv 0) rfl) pa_nil))))), ?_⟩
    have := ho.n3
    refine ⟨_, rfl, t, a.C_Banks, dx, _, _, rfl, W.ob.1, T.cl_Banks, T.n_Banks_current, bkf_current _ _ _ _ _ _ _, _, _, rfl, rfl, _, rfl, t, a.C_Banks, dx, _, _, rfl, W.ob.1, T.cl_Banks, T.n_Banks__windows, bkf__windows _ _ _ _ _ _ _, _, _, rfl, .inl (SqL.of W.w.1), _, _, rfl, rfl, (by rw [rng_len]; omega), ?_⟩
    rw [rng_len]
    show Q (V.int (((B.c : Int) - 1) % (B.N : Int))) H
    rw [Bk.lo_int ho]
    exact q
theorem ok_Banks__window_above (T : Txt K mg a) : FnOk P w K mg base CX0 1 a.f_Banks__window_above a.d_Banks__window_above ["self"] (spBV a.C_Banks fun B => .int B.hi) := by
  refine T.F_Banks__window_above.ok sc_Banks__window_above (fun vs H Q E h => ?_) (fun cdv A outer s H vs Q E hr h => ?_)
  · obtain ⟨_, _, _, _, rfl, _⟩ := h; rfl
  · obtain ⟨τ, i, t, B, rfl, ⟨dx, gl, wn, wr, W⟩, ho, q⟩ := h
    refine ⟨_, (pss_one (ps_ret (pe_op op_mod (pe_op op_add (pe_fld (pv 0) rfl) pe_int) (pe_callB call_len_seq (by rfl) T.b_len (by decide +kernel) (pa_cons (pe_fld (pv 0) rfl) pa_nil))))), ?_⟩
    have := ho.n3
    refine ⟨_, rfl, t, a.C_Banks, dx, _, _, rfl, W.ob.1, T.cl_Banks, T.n_Banks_current, bkf_current _ _ _ _ _ _ _, _, _, rfl, rfl, _, rfl, t, a.C_Banks, dx, _, _, rfl, W.ob.1, T.cl_Banks, T.n_Banks__windows, bkf__windows _ _ _ _ _ _ _, _, _, rfl, .inl (SqL.of W.w.1), _, _, rfl, rfl, (by rw [rng_len]; omega), ?_⟩
    rw [rng_len]
    show Q (V.int (((B.c : Int) + 1) % (B.N : Int))) H
    rw [Bk.hi_int ho]
    exact q
theorem ok_Banks___init__ (T : Txt K mg a) : FnOk P w K mg base CX0 1 a.f_Banks___init__ a.d_Banks___init__ ["self", "windows"] (spBI a.C_Banks) := by
  refine T.F_Banks___init__.ok sc_Banks___init__ (fun vs H Q E h => ?_) (fun cdv A outer s H vs Q E hr h => ?_)
  · obtain ⟨_, _, _, _, _, rfl, _⟩ := h; rfl
  · obtain ⟨τ, i, t, dx, n, rfl, n3, n32, ht, q⟩ := h
    have mt : (τ t).1 ∈ [i] := mem1 ht.2 rfl
    refine ⟨_, (pss_cons (ps_fld (pv 0) pe_int rfl)
      (pss_cons (ps_fld (pv 0) pe_int rfl)
      (pss_cons (ps_fld (pv 0) pe_int rfl)
      (pss_cons (ps_fld (pv 0) pe_int rfl)
      (pss_cons (ps_fld (pv 0) pe_int rfl)
      (pss_cons (ps_fld (pv 0) (pe_op op_rep (pe_lst (pa_cons pe_int pa_nil)) pe_int) rfl)
      (pss_one (ps_fld (pv 0) (pe_lc (own := [("_", 2)]) (g := gName 2) rfl sc_Banks___init__.nd (pi_range1 rfl T.b_range (pa_cons (pv 1) pa_nil)) (blkOk_by (own := [("_", 2)]) (N := ["self", "windows", "_"]) (sc := defScope s_Banks___init__) (by decide +kernel)) (fun _ _ _ _ _ => pg_name (i := 2) sc_Banks___init__.nd rfl (Or.inl rfl)) (fun _ _ _ _ _ => pts_nil) (fun _ _ _ _ _ => (pe_op op_rep (pe_lst (pa_cons pe_int pa_nil)) pe_int))) rfl)))))))), ?_⟩
    refine ⟨_, rfl, t, a.C_Banks, dx, _, rfl, ht.1, T.cl_Banks, T.n_Banks_depth, (by show 0 < 1000; decide), ?_⟩
    refine ⟨_, rfl, t, a.C_Banks, dx, _, rfl, upd_same, T.cl_Banks, T.n_Banks_spills, bkf_len1 _, ?_⟩
    refine ⟨_, rfl, t, a.C_Banks, dx, _, rfl, upd_same, T.cl_Banks, T.n_Banks_fills, bkf_len2 _ _, ?_⟩
    refine ⟨_, rfl, t, a.C_Banks, dx, _, rfl, upd_same, T.cl_Banks, T.n_Banks_current, bkf_len3 _ _ _, ?_⟩
    refine ⟨_, rfl, t, a.C_Banks, dx, _, rfl, upd_same, T.cl_Banks, T.n_Banks_barred, bkf_len4 _ _ _ _, ?_⟩
    have S1 := ((((Stp.refl (τ := τ) (S := [i]) (H := H)).put (o := .ins a.C_Banks dx (putF "depth" (.int 0) [])) mt).put (o := .ins a.C_Banks dx (putF "spills" (.int 0) (putF "depth" (.int 0) []))) mt).put (o := .ins a.C_Banks dx (putF "fills" (.int 0) (putF "spills" (.int 0) (putF "depth" (.int 0) [])))) mt).put (o := .ins a.C_Banks dx (putF "current" (.int 0) (putF "fills" (.int 0) (putF "spills" (.int 0) (putF "depth" (.int 0) []))))) mt |>.put (o := .ins a.C_Banks dx (putF "barred" (.int 1) (putF "current" (.int 0) (putF "fills" (.int 0) (putF "spills" (.int 0) (putF "depth" (.int 0) [])))))) mt
    have ht1 : At τ _ t _ _ := At.set (H := upd (upd (upd (upd H t (.ins a.C_Banks dx (putF "depth" (.int 0) []))) t (.ins a.C_Banks dx (putF "spills" (.int 0) (putF "depth" (.int 0) [])))) t (.ins a.C_Banks dx (putF "fills" (.int 0) (putF "spills" (.int 0) (putF "depth" (.int 0) []))))) t (.ins a.C_Banks dx (putF "current" (.int 0) (putF "fills" (.int 0) (putF "spills" (.int 0) (putF "depth" (.int 0) [])))))) (o := .ins a.C_Banks dx (putF "barred" (.int 1) (putF "current" (.int 0) (putF "fills" (.int 0) (putF "spills" (.int 0) (putF "depth" (.int 0) [])))))) ht.2
    generalize upd (upd (upd (upd (upd H t (.ins a.C_Banks dx (putF "depth" (.int 0) []))) t (.ins a.C_Banks dx (putF "spills" (.int 0) (putF "depth" (.int 0) [])))) t (.ins a.C_Banks dx (putF "fills" (.int 0) (putF "spills" (.int 0) (putF "depth" (.int 0) []))))) t (.ins a.C_Banks dx (putF "current" (.int 0) (putF "fills" (.int 0) (putF "spills" (.int 0) (putF "depth" (.int 0) [])))))) t (.ins a.C_Banks dx (putF "barred" (.int 1) (putF "current" (.int 0) (putF "fills" (.int 0) (putF "spills" (.int 0) (putF "depth" (.int 0) [])))))) = H1 at S1 ht1 ⊢
    -- the globals
    refine ⟨(by show 1 ≤ sizeLine; decide), fun b1 m1 => ⟨_, _, _, rfl, rfl, upd_same, by decide, by decide, (by show 1 * 8 ≤ sizeLine; decide), fun gl ng => ?_⟩⟩
    rw [show (List.replicate (8 : Int).toNat [V.int 0]).flatten = (List.replicate 8 (0 : Int)).map V.int from rep_int 8]
    have s1 := sN (Same.refl H1) m1 (o := .lst [V.int 0])
    have S2 := (S1.tr (Stp.same s1)).new ng (o := .lst ((List.replicate 8 (0 : Int)).map V.int)) (x := (i, 1, 0))
    have ht2 := (ht1.same s1).new ng (u := .lst ((List.replicate 8 (0 : Int)).map V.int)) (y := (i, 1, 0))
    have ag : At (tgN τ gl (i, 1, 0)) (upd (upd H1 b1 (.lst [V.int 0])) gl (.lst ((List.replicate 8 (0 : Int)).map V.int))) gl _ _ := At.mk
    generalize upd (upd H1 b1 (.lst [V.int 0])) gl (.lst ((List.replicate 8 (0 : Int)).map V.int)) = H2 at S2 ht2 ag ⊢
    generalize tgN τ gl (i, 1, 0) = τ2 at S2 ht2 ag
    clear S1 ht1 s1
    refine ⟨_, rfl, t, a.C_Banks, dx, _, rfl, ht2.1, T.cl_Banks, T.n_Banks__globals, bkf_len5 _ _ _ _ _, ?_⟩
    have S3 := S2.put (o := .ins a.C_Banks dx (putF "_globals" (.ref gl) (putF "barred" (.int 1) (putF "current" (.int 0) (putF "fills" (.int 0) (putF "spills" (.int 0) (putF "depth" (.int 0) []))))))) (mem1 ht2.2 rfl)
    have ht3 : At τ2 _ t _ _ := At.set (H := H2) (o := .ins a.C_Banks dx (putF "_globals" (.ref gl) (putF "barred" (.int 1) (putF "current" (.int 0) (putF "fills" (.int 0) (putF "spills" (.int 0) (putF "depth" (.int 0) []))))))) ht2.2
    have ag := ag.put ht2.2 (u := .ins a.C_Banks dx (putF "_globals" (.ref gl) (putF "barred" (.int 1) (putF "current" (.int 0) (putF "fills" (.int 0) (putF "spills" (.int 0) (putF "depth" (.int 0) []))))))) (by simp)
    generalize upd H2 t (.ins a.C_Banks dx (putF "_globals" (.ref gl) (putF "barred" (.int 1) (putF "current" (.int 0) (putF "fills" (.int 0) (putF "spills" (.int 0) (putF "depth" (.int 0) []))))))) = H3 at S3 ht3 ag ⊢
    clear S2 ht2
    -- the windows
    refine ⟨_, rfl, _, rfl, by omega, by omega, fun D nD => ?_⟩
    have S4 := S3.new nD (o := .lst []) (x := (i, 2, 0))
    have ht4 := ht3.new nD (u := .lst []) (y := (i, 2, 0))
    have ag4 := ag.new nD (u := .lst []) (y := (i, 2, 0))
    have aD : At (tgN τ2 D (i, 2, 0)) (upd H3 D (.lst [])) D _ _ := At.mk
    refine lc_range (lo := 0) (n := (n : Int).toNat) (fun k H' => ∃ τ' wr, Stp τ τ' [i] H H' ∧ At τ' H' t (.ins a.C_Banks dx (putF "_globals" (.ref gl) (putF "barred" (.int 1) (putF "current" (.int 0) (putF "fills" (.int 0) (putF "spills" (.int 0) (putF "depth" (.int 0) []))))))) (i, 0, 0) ∧
      At τ' H' gl (.lst ((List.replicate 8 (0 : Int)).map V.int)) (i, 1, 0) ∧ At τ' H' D (.lst ((List.range k).map fun j => V.ref (wr j))) (i, 2, 0) ∧ ∀ j, j < k → At τ' H' (wr j) (.lst ((List.replicate 16 (0 : Int)).map V.int)) (i, 3, j))
      ⟨_, fun _ => 0, S4, ht4, ag4, aD, fun j hj => absurd hj (Nat.not_lt_zero j)⟩ ?_ ?_
    · clear S4 ht4 ag4 aD S3 ht3 ag
      rintro k H4 hk ⟨τ', wr, S4, ht4, ag, aD, ar⟩
      refine ⟨rfl, (by show 1 ≤ sizeLine; decide), fun b1 m1 => ⟨_, _, _, rfl, rfl, upd_same, by decide, by decide, (by show 1 * 16 ≤ sizeLine; decide), fun p np => ?_⟩⟩
      rw [show (List.replicate (16 : Int).toNat [V.int 0]).flatten = (List.replicate 16 (0 : Int)).map V.int from rep_int 16]
      have s1 := sN (Same.refl H4) m1 (o := .lst [V.int 0])
      have S5 := (S4.tr (Stp.same s1)).new np (o := .lst ((List.replicate 16 (0 : Int)).map V.int)) (x := (i, 3, k))
      have ht5 := (ht4.same s1).new np (u := .lst ((List.replicate 16 (0 : Int)).map V.int)) (y := (i, 3, k))
      have ag5 := (ag.same s1).new np (u := .lst ((List.replicate 16 (0 : Int)).map V.int)) (y := (i, 3, k))
      have aD5 := (aD.same s1).new np (u := .lst ((List.replicate 16 (0 : Int)).map V.int)) (y := (i, 3, k))
      have ar5 := fun j hj => ((ar j hj).same s1).new np (u := .lst ((List.replicate 16 (0 : Int)).map V.int)) (y := (i, 3, k))
      have ap : At (tgN τ' p (i, 3, k)) (upd (upd H4 b1 (.lst [V.int 0])) p (.lst ((List.replicate 16 (0 : Int)).map V.int))) p _ _ := At.mk
      refine ⟨_, aD5.1, sz (by rw [rng_len]; omega), tgN τ' p (i, 3, k), upA wr k p, S5.put (mem1 aD5.2 rfl), ht5.put aD5.2 (by simp), ag5.put aD5.2 (by simp), ?_, fun j hj => ?_⟩
      · rw [← rng_app]
        exact .set aD5.2
      · by_cases e : j = k
        · subst e
          rw [upA_same]
          exact ap.put aD5.2 (by simp)
        · rw [upA_ne e]
          exact (ar5 j (by omega)).put aD5.2 (by simp)
    · clear S4 ht4 ag4 aD S3 ht3 ag
      rintro H5 ⟨τ', wr, S5, ht5, ag, aD, ar⟩
      have en : (n : Int).toNat = n := Int.toNat_natCast n
      rw [en] at aD ar
      refine ⟨_, rfl, t, a.C_Banks, dx, _, rfl, ht5.1, T.cl_Banks, T.n_Banks__windows, bkf_len6 _ _ _ _ _ _, ?_⟩
      refine q _ _ ⟨dx, gl, D, wr, ?_, ag.put ht5.2 (by simp), aD.put ht5.2 (by simp), fun k hk => (ar k hk).put ht5.2 (by simp)⟩ (S5.put (mem1 ht5.2 rfl))
      exact ⟨by rw [upd_same]; exact congrArg (fun z => some (HO.ins _ dx z)) (bkf_mk 0 0 0 0 1 gl D), ht5.2⟩
theorem ok_Banks_read (T : Txt K mg a) : FnOk P w K mg base CX0 2 a.f_Banks_read a.d_Banks_read ["self", "number"] (spBR a.C_Banks) := by
  have G_Banks__window_below : FnOk P w K mg base CX0 1 _ _ _ _ := ok_Banks__window_below T
  refine T.F_Banks_read.ok sc_Banks_read (fun vs H Q E h => ?_) (fun cdv A outer s H vs Q E hr h => ?_)
  · obtain ⟨_, _, _, _, _, rfl, _⟩ := h; rfl
  · obtain ⟨τ, i, t, B, j, rfl, W0, ho, hj, q⟩ := h
    have W0' := W0
    obtain ⟨dx, gl, wn, wr, W⟩ := W0'
    refine ⟨_, (pss_cons (ps_if (pt_cmpR op_lt (pv 1) pe_int (nomark _)) (pss_one (ps_ret (pe_ix ix_list (pe_fld (pv 0) rfl) (pv 1) (fun _ _ => rfl)))) pss_nil)
      (pss_cons (ps_if (pt_cmpR op_lt (pv 1) pe_int (nomark _)) (pss_one (ps_ret (pe_ix ix_list (pe_ix ix_list (pe_fld (pv 0) rfl) (pe_meth0 (pv 0) T.cl_Banks T.m_Banks__window_below G_Banks__window_below (hr.mono (by decide)) T.bd_Banks__window_below .nil pass0) (fun _ _ => rfl)) (pv 1) (fun _ _ => rfl)))) pss_nil)
      (pss_one (ps_ret (pe_ix ix_list (pe_ix ix_list (pe_fld (pv 0) rfl) (pe_fld (pv 0) rfl) (fun _ _ => rfl)) (pe_op op_sub (pv 1) pe_int) (fun _ _ => rfl)))))), ?_⟩
    unfold Bk.rd Bk.rowOf Bk.ofs at q
    refine ⟨_, rfl, _, _, rfl, rfl, _, rfl, ite3 (fun e => ?_) (fun e => ?_)⟩
    · have c1 : j < 8 := by have := of_decide_eq_true e; omega
      rw [if_pos c1] at q
      exact ⟨_, rfl, t, a.C_Banks, dx, _, _, rfl, W.ob.1, T.cl_Banks, T.n_Banks__globals, bkf__globals _ _ _ _ _ _ _, _, rfl, _, _, _, _, rfl, rfl, SqL.of W.g.1, atI_nat (at_map (by rw [ho.g]; exact c1)), q⟩
    have c1 : ¬ j < 8 := by have := of_decide_eq_false e; omega
    rw [if_neg c1] at q
    refine ⟨_, rfl, _, _, rfl, rfl, _, rfl, ite3 (fun e => ?_) (fun e => ?_)⟩
    · have c2 : j < 16 := by have := of_decide_eq_true e; omega
      rw [if_pos c2, if_pos c2] at q
      exact ⟨_, rfl, t, a.C_Banks, dx, _, _, rfl, W.ob.1, T.cl_Banks, T.n_Banks__windows, bkf__windows _ _ _ _ _ _ _, _, rfl, t, dx, _, rfl, W.ob.1, bkf_no__window_below _ _ _ _ _ _ _, τ, i, t, B, rfl, W0, ho, _, _, _, _, rfl, rfl, SqL.of W.w.1, atI_nat (rng_at ho.lo), _, rfl, _, _, _, _, rfl, rfl, SqL.of (W.r _ ho.lo).1, atI_nat (at_map (by rw [ho.w]; omega)), q⟩
    have c2 : ¬ j < 16 := by have := of_decide_eq_false e; omega
    rw [if_neg c2, if_neg c2] at q
    refine ⟨_, rfl, t, a.C_Banks, dx, _, _, rfl, W.ob.1, T.cl_Banks, T.n_Banks__windows, bkf__windows _ _ _ _ _ _ _, _, rfl, t, a.C_Banks, dx, _, _, rfl, W.ob.1, T.cl_Banks, T.n_Banks_current, bkf_current _ _ _ _ _ _ _, _, _, _, _, rfl, rfl, SqL.of W.w.1, atI_nat (rng_at ho.cn), _, rfl, _, _, rfl, rfl, ?_⟩
    have e2 : (j : Int) - 16 = ((j - 16 : Nat) : Int) := by omega
    exact ⟨_, _, _, _, rfl, rfl, SqL.of (W.r _ ho.cn).1, by rw [e2]; exact atI_nat (at_map (by rw [ho.w]; omega)), q⟩
theorem ok_Banks_write (T : Txt K mg a) : FnOk P w K mg base CX0 2 a.f_Banks_write a.d_Banks_write ["self", "number", "word"] (spBWr a.C_Banks) := by
  have G_Banks__window_below : FnOk P w K mg base CX0 1 _ _ _ _ := ok_Banks__window_below T
  refine T.F_Banks_write.ok sc_Banks_write (fun vs H Q E h => ?_) (fun cdv A outer s H vs Q E hr h => ?_)
  · obtain ⟨_, _, _, _, _, _, rfl, _⟩ := h; rfl
  · obtain ⟨τ, i, t, B, j, x, rfl, W0, ho, hj, q⟩ := h
    have W0' := W0
    obtain ⟨dx, gl, wn, wr, W⟩ := W0'
    refine ⟨_, (pss_one (ps_if (pt_cmpR op_ge (pv 1) pe_int (nomark _)) (pss_one (ps_asg (pv 2) (pg_sub (pe_ix ix_list (pe_fld (pv 0) rfl) (pe_fld (pv 0) rfl) (fun _ _ => rfl)) (pe_op op_sub (pv 1) pe_int) set_list))) (pss_one (ps_if (pt_cmpR op_ge (pv 1) pe_int (nomark _)) (pss_one (ps_asg (pv 2) (pg_sub (pe_ix ix_list (pe_fld (pv 0) rfl) (pe_meth0 (pv 0) T.cl_Banks T.m_Banks__window_below G_Banks__window_below (hr.mono (by decide)) T.bd_Banks__window_below .nil pass0) (fun _ _ => rfl)) (pv 1) set_list))) (pss_one (ps_if (pt_cmpR op_ne (pv 1) pe_int (nomark _)) (pss_one (ps_asg (pv 2) (pg_sub (pe_fld (pv 0) rfl) (pv 1) set_list))) pss_nil)))))), ?_⟩
    unfold Bk.wr Bk.rowOf Bk.ofs at q
    refine ⟨_, rfl, _, _, rfl, rfl, _, rfl, ite3 (fun e => ?_) (fun e => ?_)⟩
    · have c2 : ¬ j < 16 := by have := of_decide_eq_true e; omega
      rw [if_neg (by omega), if_neg (by omega), if_neg c2, if_neg c2] at q
      have e2 : (j : Int) - 16 = ((j - 16 : Nat) : Int) := by omega
      refine ⟨_, rfl, _, rfl, t, a.C_Banks, dx, _, _, rfl, W.ob.1, T.cl_Banks, T.n_Banks__windows, bkf__windows _ _ _ _ _ _ _, _, rfl, t, a.C_Banks, dx, _, _, rfl, W.ob.1, T.cl_Banks, T.n_Banks_current, bkf_current _ _ _ _ _ _ _, _, _, _, _, rfl, rfl, SqL.of W.w.1, atI_nat (rng_at ho.cn), _, rfl, _, _, rfl, rfl, _, _, _, _, rfl, rfl, (W.r _ ho.cn).1, (by rw [e2]; exact ixN_nat (by rw [List.length_map, ho.w]; omega)), ?_⟩
      rw [set_int]
      exact q _ ⟨dx, gl, wn, wr, W.row ho.cn _⟩ (Stp.refl.put (mem1 (W.r _ ho.cn).2 rfl))
    have c2 : j < 16 := by have := of_decide_eq_false e; omega
    refine ⟨_, rfl, _, _, rfl, rfl, _, rfl, ite3 (fun e => ?_) (fun e => ?_)⟩
    · have c1 : ¬ j < 8 := by have := of_decide_eq_true e; omega
      rw [if_neg (by omega), if_neg c1, if_pos c2, if_pos c2] at q
      refine ⟨_, rfl, _, rfl, t, a.C_Banks, dx, _, _, rfl, W.ob.1, T.cl_Banks, T.n_Banks__windows, bkf__windows _ _ _ _ _ _ _, _, rfl, t, dx, _, rfl, W.ob.1, bkf_no__window_below _ _ _ _ _ _ _, τ, i, t, B, rfl, W0, ho, _, _, _, _, rfl, rfl, SqL.of W.w.1, atI_nat (rng_at ho.lo), _, rfl, _, _, _, _, rfl, rfl, (W.r _ ho.lo).1, ixN_nat (by rw [List.length_map, ho.w]; omega), ?_⟩
      rw [set_int]
      exact q _ ⟨dx, gl, wn, wr, W.row ho.lo _⟩ (Stp.refl.put (mem1 (W.r _ ho.lo).2 rfl))
    have c1 : j < 8 := by have := of_decide_eq_false e; omega
    refine ⟨_, rfl, rfl, _, rfl, ite3 (fun e => ?_) (fun e => ?_)⟩
    · have h0 : j ≠ 0 := by intro z; subst z; simp at e
      rw [if_neg h0, if_pos c1] at q
      refine ⟨_, rfl, _, rfl, t, a.C_Banks, dx, _, _, rfl, W.ob.1, T.cl_Banks, T.n_Banks__globals, bkf__globals _ _ _ _ _ _ _, _, rfl, _, _, _, _, rfl, rfl, W.g.1, ixN_nat (by rw [List.length_map, ho.g]; exact c1), ?_⟩
      rw [set_int]
      exact q _ ⟨dx, gl, wn, wr, W.glb _⟩ (Stp.refl.put (mem1 W.g.2 rfl))
    · have h0 : j = 0 := by simpa using e
      rw [if_pos h0] at q
      exact q _ W0 Stp.refl
end

section
variable {P : Program} {w : World} {K : PySem.W.Frag} {mg : Str → Option Value} {base : Heap} {a : Ad}
theorem ok_Banks__go_down (T : Txt K mg a) : FnOk P w K mg base CX0 2 a.f_Banks__go_down a.d_Banks__go_down ["self"] (spBC a.C_Banks Bk.gd fun _ => .non) := by
  have G_Banks__window_below : FnOk P w K mg base CX0 1 _ _ _ _ := ok_Banks__window_below T
  refine T.F_Banks__go_down.ok sc_Banks__go_down (fun vs H Q E h => ?_) (fun cdv A outer s H vs Q E hr h => ?_)
  · obtain ⟨_, _, _, _, rfl, _⟩ := h; rfl
  · obtain ⟨τ, i, t, B, rfl, W0, ho, q⟩ := h
    have W0' := W0
    obtain ⟨dx, gl, wn, wr, W⟩ := W0'
    refine ⟨_, (pss_cons (ps_fld (pv 0) (pe_meth0 (pv 0) T.cl_Banks T.m_Banks__window_below G_Banks__window_below (hr.mono (by decide)) T.bd_Banks__window_below .nil pass0) rfl)
      (pss_one (ps_fldaug (pv 0) pe_int in_add))), ?_⟩
    refine ⟨_, rfl, t, dx, _, rfl, W.ob.1, bkf_no__window_below _ _ _ _ _ _ _, τ, i, t, B, rfl, W0, ho, ?_⟩
    refine ⟨_, rfl, t, a.C_Banks, dx, _, rfl, W.ob.1, T.cl_Banks, T.n_Banks_current, (by show 7 < 1000; decide), ?_⟩
    rw [bkf_put_current]
    refine ⟨_, rfl, t, a.C_Banks, dx, _, _, rfl, upd_same, T.cl_Banks, T.n_Banks_depth, bkf_depth _ _ _ _ _ _ _, _, _, rfl, rfl, dx, _, upd_same, (by show 7 < 1000; decide), ?_⟩
    rw [bkf_put_depth, upd_upd]
    exact q _ ⟨dx, gl, wn, wr, W.fld (B' := B.gd) rfl rfl rfl⟩ (Stp.refl.put (mem1 W.ob.2 rfl))
theorem ok_Banks_shift_up (T : Txt K mg a) : FnOk P w K mg base CX0 2 a.f_Banks_shift_up a.d_Banks_shift_up ["self"] (spBC a.C_Banks Bk.up fun _ => .non) := by
  have G_Banks__window_above : FnOk P w K mg base CX0 1 _ _ _ _ := ok_Banks__window_above T
  refine T.F_Banks_shift_up.ok sc_Banks_shift_up (fun vs H Q E h => ?_) (fun cdv A outer s H vs Q E hr h => ?_)
  · obtain ⟨_, _, _, _, rfl, _⟩ := h; rfl
  · obtain ⟨τ, i, t, B, rfl, W0, ho, q⟩ := h
    have W0' := W0
    obtain ⟨dx, gl, wn, wr, W⟩ := W0'
    refine ⟨_, (pss_cons (ps_fld (pv 0) (pe_meth0 (pv 0) T.cl_Banks T.m_Banks__window_above G_Banks__window_above (hr.mono (by decide)) T.bd_Banks__window_above .nil pass0) rfl)
      (pss_one (ps_fldaug (pv 0) pe_int in_sub))), ?_⟩
    refine ⟨_, rfl, t, dx, _, rfl, W.ob.1, bkf_no__window_above _ _ _ _ _ _ _, τ, i, t, B, rfl, W0, ho, ?_⟩
    refine ⟨_, rfl, t, a.C_Banks, dx, _, rfl, W.ob.1, T.cl_Banks, T.n_Banks_current, (by show 7 < 1000; decide), ?_⟩
    rw [bkf_put_current]
    refine ⟨_, rfl, t, a.C_Banks, dx, _, _, rfl, upd_same, T.cl_Banks, T.n_Banks_depth, bkf_depth _ _ _ _ _ _ _, _, _, rfl, rfl, dx, _, upd_same, (by show 7 < 1000; decide), ?_⟩
    rw [bkf_put_depth, upd_upd]
    exact q _ ⟨dx, gl, wn, wr, W.fld (B' := B.up) rfl rfl rfl⟩ (Stp.refl.put (mem1 W.ob.2 rfl))
theorem ok_Banks_blocked_down (T : Txt K mg a) : FnOk P w K mg base CX0 2 a.f_Banks_blocked_down a.d_Banks_blocked_down ["self"] (spBV a.C_Banks fun B => .bl (decide (V.int B.lo = V.int B.bar))) := by
  have G_Banks__window_below : FnOk P w K mg base CX0 1 _ _ _ _ := ok_Banks__window_below T
  refine T.F_Banks_blocked_down.ok sc_Banks_blocked_down (fun vs H Q E h => ?_) (fun cdv A outer s H vs Q E hr h => ?_)
  · obtain ⟨_, _, _, _, rfl, _⟩ := h; rfl
  · obtain ⟨τ, i, t, B, rfl, W0, ho, q⟩ := h
    have W0' := W0
    obtain ⟨dx, gl, wn, wr, W⟩ := W0'
    refine ⟨_, (pss_one (ps_ret (pe_cmpR op_eq (pe_meth0 (pv 0) T.cl_Banks T.m_Banks__window_below G_Banks__window_below (hr.mono (by decide)) T.bd_Banks__window_below .nil pass0) (pe_fld (pv 0) rfl) (nomark _)))), ?_⟩
    exact ⟨_, rfl, t, dx, _, rfl, W.ob.1, bkf_no__window_below _ _ _ _ _ _ _, τ, i, t, B, rfl, W0, ho, _, rfl, t, a.C_Banks, dx, _, _, rfl, W.ob.1, T.cl_Banks, T.n_Banks_barred, bkf_barred _ _ _ _ _ _ _, rfl, q⟩
theorem ok_Banks_blocked_up (T : Txt K mg a) : FnOk P w K mg base CX0 2 a.f_Banks_blocked_up a.d_Banks_blocked_up ["self"] (spBV a.C_Banks fun B => .bl (decide (V.int B.hi = V.int B.bar))) := by
  have G_Banks__window_above : FnOk P w K mg base CX0 1 _ _ _ _ := ok_Banks__window_above T
  refine T.F_Banks_blocked_up.ok sc_Banks_blocked_up (fun vs H Q E h => ?_) (fun cdv A outer s H vs Q E hr h => ?_)
  · obtain ⟨_, _, _, _, rfl, _⟩ := h; rfl
  · obtain ⟨τ, i, t, B, rfl, W0, ho, q⟩ := h
    have W0' := W0
    obtain ⟨dx, gl, wn, wr, W⟩ := W0'
    refine ⟨_, (pss_one (ps_ret (pe_cmpR op_eq (pe_meth0 (pv 0) T.cl_Banks T.m_Banks__window_above G_Banks__window_above (hr.mono (by decide)) T.bd_Banks__window_above .nil pass0) (pe_fld (pv 0) rfl) (nomark _)))), ?_⟩
    exact ⟨_, rfl, t, dx, _, rfl, W.ob.1, bkf_no__window_above _ _ _ _ _ _ _, τ, i, t, B, rfl, W0, ho, _, rfl, t, a.C_Banks, dx, _, _, rfl, W.ob.1, T.cl_Banks, T.n_Banks_barred, bkf_barred _ _ _ _ _ _ _, rfl, q⟩
theorem ok_Banks_set_bar (T : Txt K mg a) : FnOk P w K mg base CX0 1 a.f_Banks_set_bar a.d_Banks_set_bar ["self", "number"] (spBA a.C_Banks Bk.sb) := by
  refine T.F_Banks_set_bar.ok sc_Banks_set_bar (fun vs H Q E h => ?_) (fun cdv A outer s H vs Q E hr h => ?_)
  · obtain ⟨_, _, _, _, _, rfl, _⟩ := h; rfl
  · obtain ⟨τ, i, t, B, x, rfl, ⟨dx, gl, wn, wr, W⟩, ho, q⟩ := h
    refine ⟨_, (pss_one (ps_fld (pv 0) (pv 1) rfl)), ?_⟩
    refine ⟨_, rfl, _, rfl, t, a.C_Banks, dx, _, rfl, W.ob.1, T.cl_Banks, T.n_Banks_barred, (by show 7 < 1000; decide), ?_⟩
    rw [bkf_put_barred]
    exact q _ ⟨dx, gl, wn, wr, W.fld (B' := B.sb x) rfl rfl rfl⟩ (Stp.refl.put (mem1 W.ob.2 rfl))
theorem ok_Banks__begin_trap (T : Txt K mg a) : FnOk P w K mg base CX0 3 a.f_Banks__begin_trap a.d_Banks__begin_trap ["self", "address"] (spBA a.C_Banks Bk.bt) := by
  have G_Banks__go_down : FnOk P w K mg base CX0 2 _ _ _ _ := ok_Banks__go_down T
  have G_Banks_write : FnOk P w K mg base CX0 2 _ _ _ _ := ok_Banks_write T
  refine T.F_Banks__begin_trap.ok sc_Banks__begin_trap (fun vs H Q E h => ?_) (fun cdv A outer s H vs Q E hr h => ?_)
  · obtain ⟨_, _, _, _, _, rfl, _⟩ := h; rfl
  · obtain ⟨τ, i, t, B, x, rfl, W0, ho, q⟩ := h
    have W0' := W0
    obtain ⟨dx, gl, wn, wr, W⟩ := W0'
    refine ⟨_, (pss_cons (ps_expr (pe_meth0 (pv 0) T.cl_Banks T.m_Banks__go_down G_Banks__go_down (hr.mono (by decide)) T.bd_Banks__go_down .nil pass0))
      (pss_one (ps_expr (pe_meth (pv 0) T.cl_Banks T.m_Banks_write G_Banks_write (hr.mono (by decide)) T.bd_Banks_write .nil pass0 (pa_cons pe_int (pa_cons (pv 1) pa_nil)))))), ?_⟩
    refine ⟨_, rfl, t, dx, _, rfl, W.ob.1, bkf_no__go_down _ _ _ _ _ _ _, τ, i, t, B, rfl, W0, ho, fun H1 W1 F1 => ?_⟩
    have W1' := W1
    obtain ⟨dx, gl, wn, wr, V1⟩ := W1'
    exact ⟨_, rfl, t, dx, _, rfl, V1.ob.1, bkf_no_write _ _ _ _ _ _ _, _, rfl, τ, i, t, B.gd, 17, x, rfl, W1, ho.gd, by decide, fun H2 W2 F2 => q _ W2 (F1.tr F2)⟩
theorem ok_Banks_trap_down (T : Txt K mg a) : FnOk P w K mg base CX0 4 a.f_Banks_trap_down a.d_Banks_trap_down ["self", "address"] (spBA a.C_Banks Bk.td) := by
  have G_Banks__begin_trap : FnOk P w K mg base CX0 3 _ _ _ _ := ok_Banks__begin_trap T
  refine T.F_Banks_trap_down.ok sc_Banks_trap_down (fun vs H Q E h => ?_) (fun cdv A outer s H vs Q E hr h => ?_)
  · obtain ⟨_, _, _, _, _, rfl, _⟩ := h; rfl
  · obtain ⟨τ, i, t, B, x, rfl, ⟨dx, gl, wn, wr, W⟩, ho, q⟩ := h
    refine ⟨_, (pss_cons (ps_fldaug (pv 0) pe_int in_add)
      (pss_one (ps_expr (pe_meth (pv 0) T.cl_Banks T.m_Banks__begin_trap G_Banks__begin_trap (hr.mono (by decide)) T.bd_Banks__begin_trap .nil pass0 (pa_cons (pv 1) pa_nil))))), ?_⟩
    refine ⟨_, rfl, t, a.C_Banks, dx, _, _, rfl, W.ob.1, T.cl_Banks, T.n_Banks_spills, bkf_spills _ _ _ _ _ _ _, _, _, rfl, rfl, dx, _, W.ob.1, (by show 7 < 1000; decide), ?_⟩
    rw [bkf_put_spills]
    have V1 := W.fld (B' := { B with s := B.s + 1 }) rfl rfl rfl
    have F1 := (Stp.refl (τ := τ) (S := [i]) (H := H)).put (o := .ins a.C_Banks dx (bkf B.d (B.s + 1) B.f B.c B.bar gl wn)) (mem1 W.ob.2 rfl)
    exact ⟨_, rfl, t, dx, _, rfl, V1.ob.1, bkf_no__begin_trap _ _ _ _ _ _ _, _, rfl, τ, i, t, { B with s := B.s + 1 }, x, rfl, ⟨dx, gl, wn, wr, V1⟩, ⟨ho.g, ho.w, ho.n3, ho.n32, ho.cn⟩, fun H2 W2 F2 => q _ W2 (F1.tr F2)⟩
theorem ok_Banks_trap_up (T : Txt K mg a) : FnOk P w K mg base CX0 4 a.f_Banks_trap_up a.d_Banks_trap_up ["self", "address"] (spBA a.C_Banks Bk.tu) := by
  have G_Banks__begin_trap : FnOk P w K mg base CX0 3 _ _ _ _ := ok_Banks__begin_trap T
  refine T.F_Banks_trap_up.ok sc_Banks_trap_up (fun vs H Q E h => ?_) (fun cdv A outer s H vs Q E hr h => ?_)
  · obtain ⟨_, _, _, _, _, rfl, _⟩ := h; rfl
  · obtain ⟨τ, i, t, B, x, rfl, ⟨dx, gl, wn, wr, W⟩, ho, q⟩ := h
    refine ⟨_, (pss_cons (ps_fldaug (pv 0) pe_int in_add)
      (pss_one (ps_expr (pe_meth (pv 0) T.cl_Banks T.m_Banks__begin_trap G_Banks__begin_trap (hr.mono (by decide)) T.bd_Banks__begin_trap .nil pass0 (pa_cons (pv 1) pa_nil))))), ?_⟩
    refine ⟨_, rfl, t, a.C_Banks, dx, _, _, rfl, W.ob.1, T.cl_Banks, T.n_Banks_fills, bkf_fills _ _ _ _ _ _ _, _, _, rfl, rfl, dx, _, W.ob.1, (by show 7 < 1000; decide), ?_⟩
    rw [bkf_put_fills]
    have V1 := W.fld (B' := { B with f := B.f + 1 }) rfl rfl rfl
    have F1 := (Stp.refl (τ := τ) (S := [i]) (H := H)).put (o := .ins a.C_Banks dx (bkf B.d B.s (B.f + 1) B.c B.bar gl wn)) (mem1 W.ob.2 rfl)
    exact ⟨_, rfl, t, dx, _, rfl, V1.ob.1, bkf_no__begin_trap _ _ _ _ _ _ _, _, rfl, τ, i, t, { B with f := B.f + 1 }, x, rfl, ⟨dx, gl, wn, wr, V1⟩, ⟨ho.g, ho.w, ho.n3, ho.n32, ho.cn⟩, fun H2 W2 F2 => q _ W2 (F1.tr F2)⟩
theorem ok_Banks_leave_trap (T : Txt K mg a) : FnOk P w K mg base CX0 3 a.f_Banks_leave_trap a.d_Banks_leave_trap ["self"] (spBC a.C_Banks Bk.up fun B => .int (B.rd 17)) := by
  have G_Banks_read : FnOk P w K mg base CX0 2 _ _ _ _ := ok_Banks_read T
  have G_Banks_shift_up : FnOk P w K mg base CX0 2 _ _ _ _ := ok_Banks_shift_up T
  refine T.F_Banks_leave_trap.ok sc_Banks_leave_trap (fun vs H Q E h => ?_) (fun cdv A outer s H vs Q E hr h => ?_)
  · obtain ⟨_, _, _, _, rfl, _⟩ := h; rfl
  · obtain ⟨τ, i, t, B, rfl, W0, ho, q⟩ := h
    have W0' := W0
    obtain ⟨dx, gl, wn, wr, W⟩ := W0'
    refine ⟨_, (pss_cons (ps_set (i := 1) sc_Banks_leave_trap.nd rfl (Or.inl rfl) (pe_meth (pv 0) T.cl_Banks T.m_Banks_read G_Banks_read (hr.mono (by decide)) T.bd_Banks_read .nil pass0 (pa_cons pe_int pa_nil)))
      (pss_cons (ps_expr (pe_meth0 (pv 0) T.cl_Banks T.m_Banks_shift_up G_Banks_shift_up (hr.mono (by decide)) T.bd_Banks_shift_up .nil pass0))
      (pss_one (ps_ret (pv 1))))), ?_⟩
    refine ⟨_, rfl, t, dx, _, rfl, W.ob.1, bkf_no_read _ _ _ _ _ _ _, τ, i, t, B, 17, rfl, W0, ho, by decide, ?_⟩
    exact ⟨_, rfl, t, dx, _, rfl, W.ob.1, bkf_no_shift_up _ _ _ _ _ _ _, τ, i, t, B, rfl, W0, ho, fun H1 W1 F1 => ⟨_, rfl, q _ W1 F1⟩⟩
theorem ok_Banks_shift_down (T : Txt K mg a) : FnOk P w K mg base CX0 3 a.f_Banks_shift_down a.d_Banks_shift_down ["self"] (spBC a.C_Banks Bk.dn fun _ => .non) := by
  have G_Banks__go_down : FnOk P w K mg base CX0 2 _ _ _ _ := ok_Banks__go_down T
  have G_Banks__window_below : FnOk P w K mg base CX0 1 _ _ _ _ := ok_Banks__window_below T
  refine T.F_Banks_shift_down.ok sc_Banks_shift_down (fun vs H Q E h => ?_) (fun cdv A outer s H vs Q E hr h => ?_)
  · obtain ⟨_, _, _, _, rfl, _⟩ := h; rfl
  · obtain ⟨τ, i, t, B0, rfl, W0, ho0, q⟩ := h
    have W0' := W0
    obtain ⟨dx, gl, wn, wr, W⟩ := W0'
    refine ⟨_, (pss_cons (ps_expr (pe_meth0 (pv 0) T.cl_Banks T.m_Banks__go_down G_Banks__go_down (hr.mono (by decide)) T.bd_Banks__go_down .nil pass0))
      (pss_one (ps_if (pt_cmpR op_ne (pe_fld (pv 0) rfl) (pe_un un_neg pe_int) (nomark _)) (pss_cons (ps_asg (pe_op op_rep (pe_lst (pa_cons pe_int pa_nil)) pe_int) (pg_slc (pe_ix ix_list (pe_fld (pv 0) rfl) (pe_fld (pv 0) rfl) (fun _ _ => rfl)) po_none (po_some pe_int)))
      (pss_one (ps_asg (pe_op op_rep (pe_lst (pa_cons pe_int pa_nil)) pe_int) (pg_slc (pe_ix ix_list (pe_fld (pv 0) rfl) (pe_meth0 (pv 0) T.cl_Banks T.m_Banks__window_below G_Banks__window_below (hr.mono (by decide)) T.bd_Banks__window_below .nil pass0) (fun _ _ => rfl)) (po_some pe_int) po_none)))) pss_nil))), ?_⟩
    refine ⟨_, rfl, t, dx, _, rfl, W.ob.1, bkf_no__go_down _ _ _ _ _ _ _, τ, i, t, B0, rfl, W0, ho0, fun H1 W1 F1 => ?_⟩
    have ho := ho0.gd
    unfold Bk.dn at q
    generalize B0.gd = B at W1 ho q
    clear W W0
    have W1' := W1
    obtain ⟨dx, gl, wn, wr, W⟩ := W1'
    refine ⟨_, rfl, t, a.C_Banks, dx, _, _, rfl, W.ob.1, T.cl_Banks, T.n_Banks_barred, bkf_barred _ _ _ _ _ _ _, _, rfl, rfl, _, rfl, ite3 (fun e => ?_) (fun e => ?_)⟩
    · have hb : B.bar ≠ -1 := by intro z; rw [z] at e; simp at e
      rw [if_neg hb] at q
      -- the locals
      refine ⟨(by show 1 ≤ sizeLine; decide), fun b1 m1 => ⟨_, _, _, rfl, rfl, upd_same, by decide, by decide, (by show 1 * 8 ≤ sizeLine; decide), fun z nz => ?_⟩⟩
      rw [show (List.replicate (8 : Int).toNat [V.int 0]).flatten = (List.replicate 8 (0 : Int)).map V.int from rep_int 8]
      have s1 := sN (sN (Same.refl H1) m1 (o := .lst [V.int 0])) nz (o := .lst ((List.replicate 8 (0 : Int)).map V.int))
      have az : upd (upd H1 b1 (.lst [V.int 0])) z (.lst ((List.replicate 8 (0 : Int)).map V.int)) z = some (.lst ((List.replicate 8 (0 : Int)).map V.int)) := upd_same
      have nz1 : H1 z = none := (sN (Same.refl H1) m1 (o := .lst [V.int 0])).free nz
      generalize upd (upd H1 b1 (.lst [V.int 0])) z (.lst ((List.replicate 8 (0 : Int)).map V.int)) = H2 at s1 az ⊢
      have F2 := F1.tr (Stp.same (τ := τ) (S := [i]) s1)
      have nc : wr B.c ≠ z := ne_of_none (W.r _ ho.cn).1 nz1
      have V2 : BWx a.C_Banks τ i H2 t dx gl wn wr B := ⟨W.ob.same s1, W.g.same s1, W.w.same s1, fun k hk => (W.r k hk).same s1⟩
      have hlc := (V2.r _ ho.cn)
      refine ⟨_, rfl, t, a.C_Banks, dx, _, _, rfl, V2.ob.1, T.cl_Banks, T.n_Banks__windows, bkf__windows _ _ _ _ _ _ _, _, rfl, t, a.C_Banks, dx, _, _, rfl, V2.ob.1, T.cl_Banks, T.n_Banks_current, bkf_current _ _ _ _ _ _ _, _, _, _, _, rfl, rfl, SqL.of V2.w.1, atI_nat (rng_at ho.cn), _, rfl, wr B.c, z, _, _, 0, 8, rfl, rfl, hlc.1, az, nc, by decide, by rw [List.length_map, ho.w]; decide, ?_, by rw [List.length_map, ho.w]; decide, ?_⟩
      · rw [List.length_map, ho.w]; rfl
      have e1 : List.take 0 ((B.W B.c).map V.int) ++ (List.replicate 8 (0 : Int)).map V.int ++ List.drop 8 ((B.W B.c).map V.int) = (Bk.zp 0 8 (B.W B.c)).map V.int := by
        simp [Bk.zp]
      rw [e1]
      have V3 := V2.row ho.cn (Bk.zp 0 8 (B.W B.c))
      have F3 := F2.put (o := .lst ((Bk.zp 0 8 (B.W B.c)).map V.int)) (mem1 hlc.2 rfl)
      have ho3 : Bk.ok { B with W := upF B.W B.c (Bk.zp 0 8 (B.W B.c)) } := ⟨ho.g, Bk.upF_len ho.w (by rw [Bk.zp_len (by rw [ho.w]; decide)]; exact ho.w _), ho.n3, ho.n32, ho.cn⟩
      generalize upd H2 (wr B.c) (.lst ((Bk.zp 0 8 (B.W B.c)).map V.int)) = H3 at V3 F3 ⊢
      clear az s1 V2 F2 nz1 nc hlc
      -- the outs
      refine ⟨(by show 1 ≤ sizeLine; decide), fun b1 m1 => ⟨_, _, _, rfl, rfl, upd_same, by decide, by decide, (by show 1 * 8 ≤ sizeLine; decide), fun z nz => ?_⟩⟩
      rw [show (List.replicate (8 : Int).toNat [V.int 0]).flatten = (List.replicate 8 (0 : Int)).map V.int from rep_int 8]
      have s1 := sN (sN (Same.refl H3) m1 (o := .lst [V.int 0])) nz (o := .lst ((List.replicate 8 (0 : Int)).map V.int))
      have az : upd (upd H3 b1 (.lst [V.int 0])) z (.lst ((List.replicate 8 (0 : Int)).map V.int)) z = some (.lst ((List.replicate 8 (0 : Int)).map V.int)) := upd_same
      have nz1 : H3 z = none := (sN (Same.refl H3) m1 (o := .lst [V.int 0])).free nz
      generalize upd (upd H3 b1 (.lst [V.int 0])) z (.lst ((List.replicate 8 (0 : Int)).map V.int)) = H4 at s1 az ⊢
      have F4 := F3.tr (Stp.same (τ := τ) (S := [i]) s1)
      have V4 : BWx a.C_Banks τ i H4 t dx gl wn wr { B with W := upF B.W B.c (Bk.zp 0 8 (B.W B.c)) } := ⟨V3.ob.same s1, V3.g.same s1, V3.w.same s1, fun k hk => (V3.r k hk).same s1⟩
      have nc : wr B.lo ≠ z := ne_of_none (V3.r _ ho.lo).1 nz1
      have hl4 := (V4.r _ ho.lo)
      have el : upF B.W B.c (Bk.zp 0 8 (B.W B.c)) B.lo = B.W B.lo := upF_ne ho.lc
      dsimp only at hl4
      rw [el] at hl4
      refine ⟨_, rfl, t, a.C_Banks, dx, _, _, rfl, V4.ob.1, T.cl_Banks, T.n_Banks__windows, bkf__windows _ _ _ _ _ _ _, _, rfl, t, dx, _, rfl, V4.ob.1, bkf_no__window_below _ _ _ _ _ _ _, τ, i, t, { B with W := upF B.W B.c (Bk.zp 0 8 (B.W B.c)) }, rfl, ⟨dx, gl, wn, wr, V4⟩, ho3, _, _, _, _, rfl, rfl, SqL.of V4.w.1, atI_nat (rng_at ho.lo), _, rfl, wr B.lo, z, _, _, 8, 16, rfl, rfl, hl4.1, az, nc, by decide, by rw [List.length_map, ho.w]; decide, ?_, by rw [List.length_map, ho.w]; decide, ?_⟩
      · rw [List.length_map, ho.w]; rfl
      have e2 : List.take 8 ((B.W B.lo).map V.int) ++ (List.replicate 8 (0 : Int)).map V.int ++ List.drop 16 ((B.W B.lo).map V.int) = (Bk.zp 8 8 (B.W B.lo)).map V.int := by
        simp [Bk.zp]
      rw [e2]
      have V5 := V4.row ho.lo (Bk.zp 8 8 (B.W B.lo))
      refine q _ ⟨dx, gl, wn, wr, ?_⟩ (F4.put (mem1 hl4.2 rfl))
      have e3 : B.clr 16 = { B with W := upF (upF B.W B.c (Bk.zp 0 8 (B.W B.c))) B.lo (Bk.zp 8 8 (B.W B.lo)) } := by
        unfold Bk.clr
        rw [Bk.upF_comm ho.lc]
        rfl
      rw [e3]
      exact V5
    · have hb : B.bar = -1 := by simpa using e
      rw [if_pos hb] at q
      exact q _ W1 F1
end

/-! ### the law's own model -/
structure BMx (τ : Tg) (i : Nat) (H : Hp) (m g r : Addr) (rr : Nat → Addr) (B : Bk) : Prop where
  m : At τ H m (.lst [.ref g, .ref r, .int B.c, .int B.bar, .int B.d, .int B.s, .int B.f]) (i, 0, 0)
  g : At τ H g (.lst (B.G.map V.int)) (i, 1, 0)
  r : At τ H r (.lst ((List.range B.N).map fun k => V.ref (rr k))) (i, 2, 0)
  rr : ∀ k, k < B.N → At τ H (rr k) (.lst ((B.W k).map V.int)) (i, 3, k)
def BM (τ : Tg) (i : Nat) (H : Hp) (m : Addr) (B : Bk) : Prop := ∃ g r rr, BMx τ i H m g r rr B
theorem BMx.st {τ τ' : Tg} {i : Nat} {H H' : Hp} {m g r : Addr} {rr : Nat → Addr} {B : Bk} {S : List Nat} (h : BMx τ i H m g r rr B) (s : Stp τ τ' S H H') (n : i ∉ S) : BMx τ' i H' m g r rr B :=
  ⟨h.m.st s n, h.g.st s n, h.r.st s n, fun k hk => (h.rr k hk).st s n⟩
theorem BM.st {τ τ' : Tg} {i : Nat} {H H' : Hp} {m : Addr} {B : Bk} {S : List Nat} (h : BM τ i H m B) (s : Stp τ τ' S H H') (n : i ∉ S) : BM τ' i H' m B := by
  obtain ⟨g, r, rr, x⟩ := h
  exact ⟨g, r, rr, x.st s n⟩
theorem BMx.fld {τ : Tg} {i : Nat} {H : Hp} {m g r : Addr} {rr : Nat → Addr} {B B' : Bk} (h : BMx τ i H m g r rr B) (eG : B'.G = B.G) (eW : B'.W = B.W) (eN : B'.N = B.N) :
    BMx τ i (upd H m (.lst [.ref g, .ref r, .int B'.c, .int B'.bar, .int B'.d, .int B'.s, .int B'.f])) m g r rr B' := by
  refine ⟨.set h.m.2, ?_, ?_, fun k hk => ?_⟩
  · rw [eG]; exact h.g.put h.m.2 (by simp)
  · rw [eN]; exact h.r.put h.m.2 (by simp)
  · rw [eN] at hk; rw [eW]; exact (h.rr k hk).put h.m.2 (by simp)
def grp (g : Addr) (rr : Nat → Addr) (B : Bk) (j : Nat) : Addr := if j < 8 then g else rr (B.rowOf j)
def off (j : Nat) : Nat := if j < 8 then j else Bk.ofs j
theorem BMx.row {τ : Tg} {i : Nat} {H : Hp} {m g r : Addr} {rr : Nat → Addr} {B : Bk} (h : BMx τ i H m g r rr B) (o : B.ok) {j : Nat} (hj : j < 32) :
    ∃ (row : List Int) (x : Nat × Nat × Nat), At τ H (grp g rr B j) (.lst (row.map V.int)) x ∧ x.1 = i ∧ off j < row.length ∧ row.getD (off j) 0 = B.rd j ∧
      ∀ w, j ≠ 0 → BMx τ i (upd H (grp g rr B j) (.lst ((row.set (off j) w).map V.int))) m g r rr (B.wr j w) := by
  unfold grp off Bk.rd
  by_cases c1 : j < 8
  · simp only [if_pos c1]
    refine ⟨B.G, _, h.g, rfl, by rw [o.g]; exact c1, by first | rfl | trivial, fun w h0 => ?_⟩
    have e : B.wr j w = { B with G := B.G.set j w } := by unfold Bk.wr; rw [if_neg h0, if_pos c1]
    rw [e]
    exact ⟨h.m.put h.g.2 (by simp), .set h.g.2, h.r.put h.g.2 (by simp), fun k hk => (h.rr k hk).put h.g.2 (by simp)⟩
  simp only [if_neg c1]
  have hx := h.rr _ (o.row j)
  refine ⟨B.W (B.rowOf j), _, hx, rfl, by rw [o.w]; exact Bk.ofs_lt hj, by first | rfl | trivial, fun w h0 => ?_⟩
  have e : B.wr j w = { B with W := upF B.W (B.rowOf j) ((B.W (B.rowOf j)).set (Bk.ofs j) w) } := by unfold Bk.wr; rw [if_neg h0, if_neg c1]
  rw [e]
  refine ⟨h.m.put hx.2 (by simp), h.g.put hx.2 (by simp), h.r.put hx.2 (by simp), fun k hk => ?_⟩
  show At _ _ _ (.lst ((upF B.W (B.rowOf j) _ k).map V.int)) _
  by_cases c : k = B.rowOf j
  · rw [c, upF_same]; exact .set hx.2
  · rw [upF_ne c]; exact (h.rr k hk).put hx.2 (by simp [c])
def spFind : Sp := fun vs H Q _ => ∃ (τ : Tg) (i : Nat) (m g r : Addr) (rr : Nat → Addr) (B : Bk) (j : Nat), vs = [.ref m, .int j] ∧ BMx τ i H m g r rr B ∧ B.ok ∧ ∀ p, H p = none → Q (.ref p) (upd H p (.lst [.ref (grp g rr B j), .int (off j)]))
def spGet : Sp := fun vs H Q _ => ∃ (τ : Tg) (i : Nat) (m : Addr) (B : Bk) (j : Nat), vs = [.ref m, .int j] ∧ BM τ i H m B ∧ B.ok ∧ j < 32 ∧ ∀ H', Same H H' → Q (.int (B.rd j)) H'
def spSet : Sp := fun vs H Q _ => ∃ (τ : Tg) (i : Nat) (m : Addr) (B : Bk) (j : Nat) (w : Int), vs = [.ref m, .int j, .int w] ∧ BM τ i H m B ∧ B.ok ∧ j < 32 ∧ ∀ H', BM τ i H' m (B.wr j w) → Stp τ τ [i] H H' → Q .non H'
def spMove : Sp := fun vs H Q _ => ∃ (τ : Tg) (i : Nat) (m : Addr) (B B' : Bk) (x : Int), vs = [.ref m, .int x] ∧ BM τ i H m B ∧ B.ok ∧ (x = -1 ∧ B' = B.gd ∨ x = 1 ∧ B' = B.up) ∧ ∀ H', BM τ i H' m B' → Stp τ τ [i] H H' → Q .non H'
theorem at_lo {f : Nat → V} {B : Bk} (h : B.ok) : atI ((List.range B.N).map f) ((B.c : Int) - 1) = some (f B.lo) := by
  have := h.n3
  have := h.cn
  by_cases c : B.c = 0
  · unfold atI ixN
    rw [rng_len, if_neg (by omega), if_pos (by omega)]
    show ((List.range B.N).map f)[_]? = _
    rw [show ((B.c : Int) - 1 + (B.N : Int)).toNat = B.lo by unfold Bk.lo; rw [if_pos c]; omega]
    exact rng_at h.lo
  · rw [show (B.c : Int) - 1 = (B.lo : Int) by unfold Bk.lo; rw [if_neg c]; omega]
    exact atI_nat (rng_at h.lo)
section
variable {P : Program} {w : World} {K : PySem.W.Frag} {mg : Str → Option Value} {base : Heap} {a : Ad}
theorem ok_law_find (T : Txt K mg a) : FnOk P w K mg base CX0 1 a.f_law_find a.d_law_find ["model", "number"] spFind := by
  refine T.F__law_find.ok sc_law_find (fun vs H Q E h => ?_) (fun cdv A outer s H vs Q E hr h => ?_)
  · obtain ⟨_, _, _, _, _, _, _, _, rfl, _⟩ := h; rfl
  · obtain ⟨τ, i, m, g, r, rr, B, j, rfl, M, ho, q⟩ := h
    refine ⟨_, (pss_cons (ps_set (i := 2) sc_law_find.nd rfl (Or.inl rfl) (pe_ix ix_list (pv 0) pe_int (fun _ _ => rfl)))
      (pss_cons (ps_if (pt_cmpR op_lt (pv 1) pe_int (nomark _)) (pss_one (ps_ret (pe_lst (pa_cons (pe_ix ix_list (pv 0) pe_int (fun _ _ => rfl)) (pa_cons (pv 1) pa_nil))))) pss_nil)
      (pss_cons (ps_if (pt_cmpR op_lt (pv 1) pe_int (nomark _)) (pss_one (ps_ret (pe_lst (pa_cons (pe_ix ix_list (pv 2) (pe_op op_sub (pe_ix ix_list (pv 0) pe_int (fun _ _ => rfl)) pe_int) (fun _ _ => rfl)) (pa_cons (pv 1) pa_nil))))) pss_nil)
      (pss_one (ps_ret (pe_lst (pa_cons (pe_ix ix_list (pv 2) (pe_ix ix_list (pv 0) pe_int (fun _ _ => rfl)) (fun _ _ => rfl)) (pa_cons (pe_op op_sub (pv 1) pe_int) pa_nil)))))))), ?_⟩
    refine ⟨_, rfl, _, _, _, _, rfl, rfl, SqL.of M.m.1, rfl, ?_⟩
    unfold grp off Bk.rowOf Bk.ofs at q
    refine ⟨_, rfl, _, _, rfl, rfl, _, rfl, ite3 (fun e => ?_) (fun e => ?_)⟩
    · have c1 : j < 8 := by have := of_decide_eq_true e; omega
      simp only [if_pos c1] at q
      exact ⟨_, rfl, _, _, _, _, rfl, rfl, SqL.of M.m.1, rfl, _, rfl, (by show 2 ≤ sizeLine; decide), q⟩
    have c1 : ¬ j < 8 := by have := of_decide_eq_false e; omega
    simp only [if_neg c1] at q
    refine ⟨_, rfl, _, _, rfl, rfl, _, rfl, ite3 (fun e => ?_) (fun e => ?_)⟩
    · have c2 : j < 16 := by have := of_decide_eq_true e; omega
      simp only [if_pos c2] at q
      exact ⟨_, rfl, _, rfl, _, _, _, _, rfl, rfl, SqL.of M.m.1, rfl, _, _, rfl, rfl, _, _, _, _, rfl, rfl, SqL.of M.r.1, at_lo ho, _, rfl, (by show 2 ≤ sizeLine; decide), q⟩
    have c2 : ¬ j < 16 := by have := of_decide_eq_false e; omega
    simp only [if_neg c2] at q
    rw [show ((j - 16 : Nat) : Int) = (j : Int) - 16 by omega] at q
    exact ⟨_, rfl, _, rfl, _, _, _, _, rfl, rfl, SqL.of M.m.1, rfl, _, _, _, _, rfl, rfl, SqL.of M.r.1, atI_nat (rng_at ho.cn), _, rfl, _, _, rfl, rfl, (by show 2 ≤ sizeLine; decide), q⟩
theorem ok_law_get (T : Txt K mg a) : FnOk P w K mg base CX0 2 a.f_law_get a.d_law_get ["model", "number"] spGet := by
  have G_law_find : FnOk P w K mg base CX0 1 _ _ _ _ := ok_law_find T
  refine T.F__law_get.ok sc_law_get (fun vs H Q E h => ?_) (fun cdv A outer s H vs Q E hr h => ?_)
  · obtain ⟨_, _, _, _, _, rfl, _⟩ := h; rfl
  · obtain ⟨τ, i, m, B, j, rfl, ⟨g, r, rr, M⟩, ho, hj, q⟩ := h
    obtain ⟨row, x, hx, _, hlt, hv, _⟩ := M.row ho hj
    refine ⟨_, (pss_cons (ps_set (i := 2) sc_law_get.nd rfl (Or.inl rfl) (pe_call G_law_find (hr.mono (by decide)) rfl T.g__law_find T.k__law_find T.bd__law_find .nil pass0 (pa_cons (pv 0) (pa_cons (pv 1) pa_nil))))
      (pss_one (ps_ret (pe_ix ix_list (pe_ix ix_list (pv 2) pe_int (fun _ _ => rfl)) (pe_ix ix_list (pv 2) pe_int (fun _ _ => rfl)) (fun _ _ => rfl))))), ?_⟩
    refine ⟨_, rfl, _, rfl, τ, i, m, g, r, rr, B, j, rfl, M, ho, fun p np => ?_⟩
    have s1 := sN (Same.refl H) np (o := .lst [V.ref (grp g rr B j), V.int (off j)])
    have q' := q _ s1
    rw [← hv] at q'
    exact ⟨_, rfl, _, _, _, _, rfl, rfl, SqL.of upd_same, rfl, _, rfl, _, _, _, _, rfl, rfl, SqL.of upd_same, rfl, _, _, _, _, rfl, rfl, SqL.of (s1 _ _ hx.1), atI_nat (at_map hlt), q'⟩
theorem ok_law_set (T : Txt K mg a) : FnOk P w K mg base CX0 2 a.f_law_set a.d_law_set ["model", "number", "word"] spSet := by
  have G_law_find : FnOk P w K mg base CX0 1 _ _ _ _ := ok_law_find T
  refine T.F__law_set.ok sc_law_set (fun vs H Q E h => ?_) (fun cdv A outer s H vs Q E hr h => ?_)
  · obtain ⟨_, _, _, _, _, _, rfl, _⟩ := h; rfl
  · obtain ⟨τ, i, m, B, j, x, rfl, ⟨g, r, rr, M0⟩, ho, hj, q⟩ := h
    refine ⟨_, (pss_cons (ps_set (i := 3) sc_law_set.nd rfl (Or.inl rfl) (pe_call G_law_find (hr.mono (by decide)) rfl T.g__law_find T.k__law_find T.bd__law_find .nil pass0 (pa_cons (pv 0) (pa_cons (pv 1) pa_nil))))
      (pss_cons (ps_set (i := 4) sc_law_set.nd rfl (Or.inl rfl) (pe_ix ix_list (pv 3) pe_int (fun _ _ => rfl)))
      (pss_one (ps_if (pt_cmpR op_gt (pv 1) pe_int (nomark _)) (pss_one (ps_asg (pv 2) (pg_sub (pv 4) (pe_ix ix_list (pv 3) pe_int (fun _ _ => rfl)) set_list))) pss_nil)))), ?_⟩
    refine ⟨_, rfl, _, rfl, τ, i, m, g, r, rr, B, j, rfl, M0, ho, fun p np => ?_⟩
    have s1 := sN (Same.refl H) np (o := .lst [V.ref (grp g rr B j), V.int (off j)])
    have S1 := Stp.same (τ := τ) (S := [i]) s1
    have M := M0.st (Stp.same (τ := τ) (S := []) s1) (by simp)
    obtain ⟨row, y, hx, hi, hlt, hv, hw⟩ := M.row ho hj
    refine ⟨_, rfl, _, _, _, _, rfl, rfl, SqL.of upd_same, rfl, ?_⟩
    refine ⟨_, rfl, _, _, rfl, rfl, _, rfl, ite3 (fun e => ?_) (fun e => ?_)⟩
    · have h0 : j ≠ 0 := by have := of_decide_eq_true e; omega
      refine ⟨_, rfl, _, rfl, _, rfl, _, _, _, _, rfl, rfl, SqL.of upd_same, rfl, _, _, _, _, rfl, rfl, hx.1, ixN_nat (by rw [List.length_map]; exact hlt), ?_⟩
      rw [set_int]
      exact q _ ⟨g, r, rr, hw x h0⟩ (S1.put (mem1 hx.2 hi))
    · have h0 : j = 0 := by have := of_decide_eq_false e; omega
      exact q _ (by rw [show B.wr j x = B from if_pos h0]; exact ⟨g, r, rr, M⟩) S1
theorem ok_law_move (T : Txt K mg a) : FnOk P w K mg base CX0 1 a.f_law_move a.d_law_move ["model", "by"] spMove := by
  refine T.F__law_move.ok sc_law_move (fun vs H Q E h => ?_) (fun cdv A outer s H vs Q E hr h => ?_)
  · obtain ⟨_, _, _, _, _, _, rfl, _⟩ := h; rfl
  · obtain ⟨τ, i, m, B, B', x, rfl, ⟨g, r, rr, M⟩, ho, hx, q⟩ := h
    have := ho.n3
    refine ⟨_, (C8.pss_cut (ps_set (i := 2) sc_law_move.nd rfl (Or.inl rfl) (pe_callB call_len_seq (by rfl) T.b_len (by decide +kernel) (pa_cons (pe_ix ix_list (pv 0) pe_int (fun _ _ => rfl)) pa_nil)))
      (pss_cons (ps_asg (pe_op op_mod (pe_callTy call_int1 (by rfl) T.b_int (by decide +kernel) (pa_cons (pe_op op_add (pe_op op_add (pe_ix ix_list (pv 0) pe_int (fun _ _ => rfl)) (pv 2)) (pv 1)) pa_nil)) (pv 2)) (pg_sub (pv 0) pe_int set_list))
      (pss_one (ps_asg (pe_op op_sub (pe_ix ix_list (pv 0) pe_int (fun _ _ => rfl)) (pv 1)) (pg_sub (pv 0) pe_int set_list))))), ?_⟩
    refine ⟨fun σ H' => σ = [some (.ref m), some (.int x), some (.int B.N)] ∧ H' = H, ⟨_, rfl, _, _, _, _, rfl, rfl, SqL.of M.m.1, rfl, _, _, rfl, .inl (SqL.of M.r.1), ?_, rfl⟩, ?_⟩
    · exact congrArg (fun z : Nat => [some (V.ref m), some (V.int x), some (V.int z)]) rng_len
    rintro σ H' ⟨rfl, rfl⟩
    have hc : ((B.c : Int) + (B.N : Int) + x) % (B.N : Int) = (B'.c : Int) := by
      rcases hx with ⟨rfl, rfl⟩ | ⟨rfl, rfl⟩
      · exact Bk.lo_int2 ho
      · exact Bk.hi_int2 ho
    have hd : B.d - x = B'.d := by
      rcases hx with ⟨rfl, rfl⟩ | ⟨rfl, rfl⟩
      · show B.d - -1 = B.d + 1; omega
      · rfl
    have hr : B'.G = B.G ∧ B'.W = B.W ∧ B'.N = B.N ∧ B'.bar = B.bar ∧ B'.s = B.s ∧ B'.f = B.f := by
      rcases hx with ⟨rfl, rfl⟩ | ⟨rfl, rfl⟩
      · exact ⟨rfl, rfl, rfl, rfl, rfl, rfl⟩
      · exact ⟨rfl, rfl, rfl, rfl, rfl, rfl⟩
    refine ⟨_, rfl, _, _, _, _, rfl, rfl, SqL.of M.m.1, rfl, _, rfl, _, _, rfl, rfl, _, rfl, _, _, rfl, rfl, .inl ⟨_, rfl, _, rfl, _, _, rfl, rfl, (by omega), _, rfl, _, _, _, _, rfl, rfl, M.m.1, rfl, ?_⟩⟩
    refine ⟨_, rfl, _, _, _, _, rfl, rfl, SqL.of upd_same, rfl, _, rfl, _, _, rfl, rfl, _, rfl, _, _, _, _, rfl, rfl, upd_same, rfl, ?_⟩
    rw [upd_upd]
    have e := M.fld (B' := B') hr.1 hr.2.1 hr.2.2.1
    rw [← hc, ← hd, hr.2.2.2.1, hr.2.2.2.2.1, hr.2.2.2.2.2] at e
    exact q _ ⟨g, r, rr, e⟩ (Stp.refl.put (mem1 M.m.2 rfl))
end

/-! ### words, reads, deeds -/
def spIsI : Sp := fun vs H Q _ => ∃ n : Int, vs = [.int n] ∧ Q (.bl true) H
def spWordG (K : PySem.W.Frag) : Sp := fun vs H Q _ => ∃ (τ : Tg) (st sa : Addr) (ns : List Int), vs = [.ref st] ∧ StG K τ H st sa ns ∧ ∀ (τ' : Tg) (v : Int) (H' : Hp), -2147483648 ≤ v → v ≤ 2147483647 → StG K τ' H' st sa ns → Stp τ τ' [4] H H' → Q (.int v) H'
theorem w4 (j : Nat) (h : j < 4) : ∃ x, [V.int 2147483647, V.int (-2147483648), V.int 2147483646, V.int (-2147483647)][j]? = some (V.int x) ∧ -2147483648 ≤ x ∧ x ≤ 2147483647 := by
  match j, h with
  | 0, _ => exact ⟨_, rfl, by decide, by decide⟩
  | 1, _ => exact ⟨_, rfl, by decide, by decide⟩
  | 2, _ => exact ⟨_, rfl, by decide, by decide⟩
  | 3, _ => exact ⟨_, rfl, by decide, by decide⟩
theorem neF {x y : Int} (h : x = y) : (!decide (V.int x = V.int y)) = false := by rw [h]; simp
theorem eqT {x y : Int} (h : x = y) : decide (V.int x = V.int y) = true := by rw [h]; simp
theorem nonT : decide (V.non = V.non) = true := decide_eq_true rfl
section
variable {P : Program} {w : World} {K : PySem.W.Frag} {mg : Str → Option Value} {base : Heap} {a : Ad}
theorem ok_law_is_integer (T : Txt K mg a) : FnOk P w K mg base CX0 1 a.f_law_is_integer a.d_law_is_integer ["actual"] spIsI := by
  refine T.F__law_is_integer.ok sc_law_is_integer (fun vs H Q E h => ?_) (fun cdv A outer s H vs Q E hr h => ?_)
  · obtain ⟨_, rfl, _⟩ := h; rfl
  · obtain ⟨n, rfl, q⟩ := h
    refine ⟨_, (pss_one (ps_ret (pe_and (pe_callB call_isi (by rfl) T.b_isinstance (by decide +kernel) (pa_cons (pv 0) (pa_cons (pe_bltn (v := .ty "int") (by rfl) T.b_int (by decide +kernel) rfl) pa_nil))) (pe_one (pe_not (pe_callB call_isi (by rfl) T.b_isinstance (by decide +kernel) (pa_cons (pv 0) (pa_cons (pe_bltn (v := .ty "bool") (by rfl) T.b_bool (by decide +kernel) rfl) pa_nil)))))))), ?_⟩
    refine ⟨_, rfl, _, _, _, _, _, rfl, .ty _, .base (.int _), kit_ty (by decide +kernel : kitB "int" "int" = some true), _, rfl, iteT ?_⟩
    exact ⟨_, rfl, _, _, _, _, _, rfl, .ty _, .base (.int _), kit_ty (by decide +kernel : kitB "int" "bool" = some false), _, rfl, q⟩
theorem ok_law_word (T : Txt K mg a) : FnOk P w K mg base CX0 2 a.f_law_word a.d_law_word ["state"] (spWordG K) := by
  have G_law_pick : FnOk P w K mg base CX0 1 _ _ _ _ := ok_pickG T
  refine T.F__law_word.ok sc_law_word (fun vs H Q E h => ?_) (fun cdv A outer s H vs Q E hr h => ?_)
  · obtain ⟨_, _, _, _, rfl, _⟩ := h; rfl
  · obtain ⟨τ, st, sa, ns, rfl, S, q⟩ := h
    refine ⟨_, (pss_cons (ps_set (i := 1) sc_law_word.nd rfl (Or.inl rfl) (pe_call G_law_pick (hr.mono (by decide)) rfl T.g__law_pick T.k__law_pick T.bd__law_pick .nil pass0 (pa_cons (pv 0) (pa_cons pe_int pa_nil))))
      (pss_cons (ps_if (pt_cmpR op_eq (pv 1) pe_int (nomark _)) (pss_one (ps_ret (pe_ix ix_list (pe_lst (pa_cons pe_int (pa_cons (pe_un un_neg pe_int) (pa_cons pe_int (pa_cons (pe_un un_neg pe_int) pa_nil))))) (pe_call G_law_pick (hr.mono (by decide)) rfl T.g__law_pick T.k__law_pick T.bd__law_pick .nil pass0 (pa_cons (pv 0) (pa_cons pe_int pa_nil))) (fun _ _ => rfl)))) pss_nil)
      (pss_cons (ps_if (pt_cmpR op_eq (pv 1) pe_int (nomark _)) (pss_one (ps_ret (pe_op op_sub (pe_call G_law_pick (hr.mono (by decide)) rfl T.g__law_pick T.k__law_pick T.bd__law_pick .nil pass0 (pa_cons (pv 0) (pa_cons pe_int pa_nil))) pe_int))) pss_nil)
      (pss_cons (ps_if (pt_cmpR op_eq (pv 1) pe_int (nomark _)) (pss_one (ps_ret (pe_op op_sub (pe_call G_law_pick (hr.mono (by decide)) rfl T.g__law_pick T.k__law_pick T.bd__law_pick .nil pass0 (pa_cons (pv 0) (pa_cons pe_int pa_nil))) pe_int))) pss_nil)
      (pss_one (ps_ret (pe_op op_sub (pe_call G_law_pick (hr.mono (by decide)) rfl T.g__law_pick T.k__law_pick T.bd__law_pick .nil pass0 (pa_cons (pv 0) (pa_cons pe_int pa_nil))) pe_int))))))), ?_⟩
    refine ⟨_, rfl, τ, st, sa, ns, 5, rfl, S, by decide, by decide, fun k H1 k0 k7 S1 F1 => ?_⟩
    refine ⟨_, rfl, rfl, _, rfl, ite3 (fun e => ?_) (fun e => ?_)⟩
    · refine ⟨_, rfl, _, rfl, (by show 4 ≤ sizeLine; decide), fun p np => ?_⟩
      have F2 := F1.new np (o := .lst [V.int 2147483647, V.int (-2147483648), V.int 2147483646, V.int (-2147483647)]) (x := (9, 0, 0))
      have S2 := S1.step ((Stp.refl (τ := τ) (S := [])).new np (o := .lst [V.int 2147483647, V.int (-2147483648), V.int 2147483646, V.int (-2147483647)]) (x := (9, 0, 0))) (by simp) (by simp)
      have ap : At (tgN τ p (9, 0, 0)) (upd H1 p (.lst [V.int 2147483647, V.int (-2147483648), V.int 2147483646, V.int (-2147483647)])) p _ _ := At.mk
      refine ⟨_, rfl, _, st, sa, ns, 4, rfl, S2, by decide, by decide, fun v H3 v0 v1 S3 F3 => ?_⟩
      obtain ⟨j, rfl⟩ : ∃ j : Nat, v = (j : Int) := ⟨v.toNat, by omega⟩
      obtain ⟨x, hx, x0, x1⟩ := w4 j (by omega)
      exact ⟨_, _, _, _, rfl, rfl, SqL.of (ap.st F3 (by decide)).1, atI_nat hx, q _ _ _ x0 x1 S3 (F2.tr F3)⟩
    refine ⟨_, rfl, rfl, _, rfl, ite3 (fun e => ?_) (fun e => ?_)⟩
    · refine ⟨_, rfl, τ, st, sa, ns, 4294967296, rfl, S1, by decide, by decide, fun v H2 v0 v1 S2 F2 => ⟨_, _, rfl, rfl, ?_⟩⟩
      exact q _ _ _ (by omega) (by omega) S2 (F1.tr F2)
    refine ⟨_, rfl, rfl, _, rfl, ite3 (fun e => ?_) (fun e => ?_)⟩
    · refine ⟨_, rfl, τ, st, sa, ns, 131072, rfl, S1, by decide, by decide, fun v H2 v0 v1 S2 F2 => ⟨_, _, rfl, rfl, ?_⟩⟩
      exact q _ _ _ (by omega) (by omega) S2 (F1.tr F2)
    · refine ⟨_, rfl, τ, st, sa, ns, 13, rfl, S1, by decide, by decide, fun v H2 v0 v1 S2 F2 => ⟨_, _, rfl, rfl, ?_⟩⟩
      exact q _ _ _ (by omega) (by omega) S2 (F1.tr F2)
end

def spCounts (C : Addr) : Sp := fun vs H Q _ => ∃ (τ : Tg) (i i' : Nat) (t m : Addr) (B : Bk), vs = [.ref t, .ref m] ∧ BW C τ i H t B ∧ BM τ i' H m B ∧ B.ok ∧ ∀ H', Same H H' → Q (.bl true) H'
/-- what a deed promises -/
def DeedQ (K : PySem.W.Frag) (C : Addr) (τ : Tg) (st sa : Addr) (ns : List Int) (i i' : Nat) (t m : Addr) (B : Bk) (H : Hp) (R : Hp → Prop) : Prop := StG K τ H st sa ns ∧ BW C τ i H t B ∧ BM τ i' H m B ∧ B.ok ∧ -1 ≤ B.bar ∧ i < 4 ∧ i' < 4 ∧ i ≠ i' ∧
  ∀ τ' H' B', StG K τ' H' st sa ns → BW C τ' i H' t B' → BM τ' i' H' m B' → B'.ok → -1 ≤ B'.bar → B'.N = B.N → Stp τ τ' [i, i', 4] H H' → R H'
def spShift (K : PySem.W.Frag) (C : Addr) : Sp := fun vs H Q _ => ∃ (τ : Tg) (st sa : Addr) (ns : List Int) (i i' : Nat) (t m : Addr) (B : Bk) (c : Int), vs = [.ref st, .ref t, .ref m, .int c] ∧ DeedQ K C τ st sa ns i i' t m B H (Q (.bl true))
def spDeed (K : PySem.W.Frag) (C : Addr) : Sp := fun vs H Q _ => ∃ (τ : Tg) (st sa : Addr) (ns : List Int) (i i' : Nat) (t m : Addr) (B : Bk), vs = [.ref st, .ref t, .ref m] ∧ DeedQ K C τ st sa ns i i' t m B H (Q (.bl true))
theorem dn_N {B : Bk} : B.dn.N = B.N ∧ B.dn.bar = B.bar := by unfold Bk.dn; split <;> exact ⟨rfl, rfl⟩
theorem td_eq {B : Bk} (x : Int) : B.td x = { B.gd.wr 17 x with s := B.s + 1 } := rfl
theorem tu_eq {B : Bk} (x : Int) : B.tu x = { B.gd.wr 17 x with f := B.f + 1 } := rfl
theorem lo_int3 {B : Bk} (h : B.ok) : ((B.c : Int) + (B.N : Int) - 1) % (B.N : Int) = (B.lo : Int) := by
  rw [← Bk.lo_int2 h, show (B.c : Int) + (B.N : Int) - 1 = (B.c : Int) + (B.N : Int) + -1 by omega]
section
variable {P : Program} {w : World} {K : PySem.W.Frag} {mg : Str → Option Value} {base : Heap} {a : Ad}
theorem ok_law_counts (T : Txt K mg a) : FnOk P w K mg base CX0 3 a.f_law_counts a.d_law_counts ["banks", "model"] (spCounts a.C_Banks) := by
  have G_law_is_integer : FnOk P w K mg base CX0 1 _ _ _ _ := ok_law_is_integer T
  have G_Banks_blocked_down : FnOk P w K mg base CX0 2 _ _ _ _ := ok_Banks_blocked_down T
  have G_Banks_blocked_up : FnOk P w K mg base CX0 2 _ _ _ _ := ok_Banks_blocked_up T
  refine T.F__law_counts.ok sc_law_counts (fun vs H Q E h => ?_) (fun cdv A outer s H vs Q E hr h => ?_)
  · obtain ⟨_, _, _, _, _, _, rfl, _⟩ := h; rfl
  · obtain ⟨τ, i, i', t, m, B, rfl, W0, M0, ho, q⟩ := h
    have n3 := ho.n3
    refine ⟨_, (C8.pss_cut (ps_set (i := 2) sc_law_counts.nd rfl (Or.inl rfl) (pe_callB call_len_seq (by rfl) T.b_len (by decide +kernel) (pa_cons (pe_ix ix_list (pv 1) pe_int (fun _ _ => rfl)) pa_nil)))
      (pss_cons (ps_set (i := 3) sc_law_counts.nd rfl (Or.inl rfl) (pe_lst (pa_cons (pe_fld (pv 0) rfl) (pa_cons (pe_fld (pv 0) rfl) (pa_cons (pe_fld (pv 0) rfl) (pa_cons (pe_fld (pv 0) rfl) (pa_cons (pe_fld (pv 0) rfl) pa_nil)))))))
      (pss_cons (ps_for PassesOwn.never rfl (pi_list (pv 3)) (pg_name (i := 4) sc_law_counts.nd rfl (Or.inl rfl)) (pss_one (ps_if (pt_not (pt_val (pe_call G_law_is_integer (hr.mono (by decide)) rfl T.g__law_is_integer T.k__law_is_integer T.bd__law_is_integer .nil pass0 (pa_cons (pv 4) pa_nil)))) (pss_one (ps_ret pe_bl)) pss_nil)))
      (C8.pss_cut (ps_set (i := 5) sc_law_counts.nd rfl (Or.inl rfl) (pe_cmpR op_eq (pe_op op_mod (pe_callTy call_int1 (by rfl) T.b_int (by decide +kernel) (pa_cons (pe_op op_sub (pe_op op_add (pe_ix ix_list (pv 1) pe_int (fun _ _ => rfl)) (pv 2)) pe_int) pa_nil)) (pv 2)) (pe_ix ix_list (pv 1) pe_int (fun _ _ => rfl)) (nomark _)))
      (C8.pss_cut (ps_set (i := 6) sc_law_counts.nd rfl (Or.inl rfl) (pe_cmpR op_eq (pe_op op_mod (pe_callTy call_int1 (by rfl) T.b_int (by decide +kernel) (pa_cons (pe_op op_add (pe_ix ix_list (pv 1) pe_int (fun _ _ => rfl)) pe_int) pa_nil)) (pv 2)) (pe_ix ix_list (pv 1) pe_int (fun _ _ => rfl)) (nomark _)))
      (pss_cons (ps_for PassesOwn.never rfl (pi_list (pe_lst (pa_cons (pe_meth0 (pv 0) T.cl_Banks T.m_Banks_blocked_down G_Banks_blocked_down (hr.mono (by decide)) T.bd_Banks_blocked_down .nil pass0) (pa_cons (pe_meth0 (pv 0) T.cl_Banks T.m_Banks_blocked_up G_Banks_blocked_up (hr.mono (by decide)) T.bd_Banks_blocked_up .nil pass0) pa_nil)))) (pg_name (i := 7) sc_law_counts.nd rfl (Or.inl rfl)) (pss_one (ps_if (pt_not (pt_val (pe_callB call_isi (by rfl) T.b_isinstance (by decide +kernel) (pa_cons (pv 7) (pa_cons (pe_bltn (v := .ty "bool") (by rfl) T.b_bool (by decide +kernel) rfl) pa_nil))))) (pss_one (ps_ret pe_bl)) pss_nil)))
      (pss_cons (ps_if (PW.pt (pw_or (pt_cmpR op_ne (pe_meth0 (pv 0) T.cl_Banks T.m_Banks_blocked_down G_Banks_blocked_down (hr.mono (by decide)) T.bd_Banks_blocked_down .nil pass0) (pv 5) (nomark _)) (pw_or1 (pt_cmpR op_ne (pe_meth0 (pv 0) T.cl_Banks T.m_Banks_blocked_up G_Banks_blocked_up (hr.mono (by decide)) T.bd_Banks_blocked_up .nil pass0) (pv 6) (nomark _))))) (pss_one (ps_ret pe_bl)) pss_nil)
      (pss_one (ps_ret (pe_cmpR (op_eqD hr.units) (pv 3) (pe_slice sl_list (pv 1) (po_some pe_int) po_none) (nomark _))))))))))), ?_⟩
    have W0' := W0
    obtain ⟨dx, gl, wn, wr, W⟩ := W0'
    have M0' := M0
    obtain ⟨g, r, rr, M⟩ := M0'
    refine ⟨fun σ H' => σ = [some (.ref t), some (.ref m), some (.int B.N), none, none, none, none, none] ∧ H' = H, ⟨_, rfl, _, _, _, _, rfl, rfl, SqL.of M.m.1, rfl, _, _, rfl, .inl (SqL.of M.r.1), ?_, rfl⟩, ?_⟩
    · exact congrArg (fun z : Nat => [some (V.ref t), some (V.ref m), some (V.int z), none, none, none, none, none]) rng_len
    rintro σ H' ⟨rfl, rfl⟩
    refine ⟨_, rfl, t, a.C_Banks, dx, _, _, rfl, W.ob.1, T.cl_Banks, T.n_Banks_current, bkf_current _ _ _ _ _ _ _, _, rfl, t, a.C_Banks, dx, _, _, rfl, W.ob.1, T.cl_Banks, T.n_Banks_barred, bkf_barred _ _ _ _ _ _ _,
      _, rfl, t, a.C_Banks, dx, _, _, rfl, W.ob.1, T.cl_Banks, T.n_Banks_depth, bkf_depth _ _ _ _ _ _ _, _, rfl, t, a.C_Banks, dx, _, _, rfl, W.ob.1, T.cl_Banks, T.n_Banks_spills, bkf_spills _ _ _ _ _ _ _,
      _, rfl, t, a.C_Banks, dx, _, _, rfl, W.ob.1, T.cl_Banks, T.n_Banks_fills, bkf_fills _ _ _ _ _ _ _, (by show 5 ≤ sizeLine; decide), fun p np => ?_⟩
    have s1 := sN (Same.refl H') np (o := .lst [V.int B.c, V.int B.bar, V.int B.d, V.int B.s, V.int B.f])
    have hp : upd H' p (.lst [V.int B.c, V.int B.bar, V.int B.d, V.int B.s, V.int B.f]) p = some (.lst [V.int B.c, V.int B.bar, V.int B.d, V.int B.s, V.int B.f]) := upd_same
    have W1 := W0.st (Stp.same (τ := τ) (S := []) s1) (by simp)
    have M1 := M0.st (Stp.same (τ := τ) (S := []) s1) (by simp)
    generalize upd H' p (.lst [V.int B.c, V.int B.bar, V.int B.d, V.int B.s, V.int B.f]) = H2 at s1 hp W1 M1 ⊢
    clear W M W0 M0
    refine ⟨_, rfl, _, rfl, ⟨_, SqL.of hp⟩, for_list (K := K) (a := p) (xs := [V.int B.c, V.int B.bar, V.int B.d, V.int B.s, V.int B.f]) (fun _ σ H' => H' = H2 ∧ ∃ z, σ = [some (.ref t), some (.ref m), some (.int B.N), some (.ref p), z, none, none, none]) ⟨rfl, _, rfl⟩ (fun _ _ _ _ ⟨e, _⟩ => by rw [e]; exact SqL.of hp) ?_ ?_⟩
    · rintro k v σ H3 hv ⟨rfl, z, rfl⟩
      obtain ⟨c, rfl⟩ : ∃ c, v = V.int c := by
        match k, hv with
        | 0, hv => exact ⟨_, (Option.some.inj hv).symm⟩
        | 1, hv => exact ⟨_, (Option.some.inj hv).symm⟩
        | 2, hv => exact ⟨_, (Option.some.inj hv).symm⟩
        | 3, hv => exact ⟨_, (Option.some.inj hv).symm⟩
        | 4, hv => exact ⟨_, (Option.some.inj hv).symm⟩
        | k + 5, hv => simp at hv
      exact ⟨_, rfl, c, rfl, _, rfl, iteF ⟨rfl, _, rfl⟩⟩
    rintro σ H3 ⟨rfl, z, rfl⟩
    have W1' := W1
    obtain ⟨dx, gl, wn, wr, W⟩ := W1'
    have M1' := M1
    obtain ⟨g, r, rr, M⟩ := M1'
    refine ⟨fun σ H' => σ = [some (.ref t), some (.ref m), some (.int B.N), some (.ref p), z, some (.bl (decide (V.int B.lo = V.int B.bar))), none, none] ∧ H' = H3, ⟨_, rfl, _, _, _, _, rfl, rfl, SqL.of M.m.1, rfl, _, rfl, _, _, rfl, rfl, _, _, rfl, rfl, .inl ⟨_, rfl, _, rfl, _, _, rfl, rfl, (by omega), _, rfl, _, _, _, _, rfl, rfl, SqL.of M.m.1, rfl, rfl, ?_, rfl⟩⟩, ?_⟩
    · rw [← lo_int3 ho]; rfl
    rintro σ H4 ⟨rfl, rfl⟩
    refine ⟨fun σ H' => σ = [some (.ref t), some (.ref m), some (.int B.N), some (.ref p), z, some (.bl (decide (V.int B.lo = V.int B.bar))), some (.bl (decide (V.int B.hi = V.int B.bar))), none] ∧ H' = H4, ⟨_, rfl, _, _, _, _, rfl, rfl, SqL.of M.m.1, rfl, _, _, rfl, rfl, .inl ⟨_, rfl, _, rfl, _, _, rfl, rfl, (by omega), _, rfl, _, _, _, _, rfl, rfl, SqL.of M.m.1, rfl, rfl, ?_, rfl⟩⟩, ?_⟩
    · rw [← Bk.hi_int ho]; rfl
    rintro σ H5 ⟨rfl, rfl⟩
    refine ⟨_, rfl, t, dx, _, rfl, W.ob.1, bkf_no_blocked_down _ _ _ _ _ _ _, τ, i, t, B, rfl, W1, ho, _, rfl, t, dx, _, rfl, W.ob.1, bkf_no_blocked_up _ _ _ _ _ _ _, τ, i, t, B, rfl, W1, ho, (by show 2 ≤ sizeLine; decide), fun p2 np2 => ?_⟩
    have s2 := sN (Same.refl H5) np2 (o := .lst [V.bl (decide (V.int B.lo = V.int B.bar)), V.bl (decide (V.int B.hi = V.int B.bar))])
    have hp2 : upd H5 p2 (.lst [V.bl (decide (V.int B.lo = V.int B.bar)), V.bl (decide (V.int B.hi = V.int B.bar))]) p2 = some (.lst [V.bl (decide (V.int B.lo = V.int B.bar)), V.bl (decide (V.int B.hi = V.int B.bar))]) := upd_same
    have W2 := W1.st (Stp.same (τ := τ) (S := []) s2) (by simp)
    have M2 := M1.st (Stp.same (τ := τ) (S := []) s2) (by simp)
    have hp := s2 _ _ hp
    generalize upd H5 p2 (.lst [V.bl (decide (V.int B.lo = V.int B.bar)), V.bl (decide (V.int B.hi = V.int B.bar))]) = H6 at s2 hp2 W2 M2 hp ⊢
    clear W M W1 M1
    refine ⟨_, rfl, ⟨_, SqL.of hp2⟩, for_list (K := K) (a := p2) (xs := [V.bl (decide (V.int B.lo = V.int B.bar)), V.bl (decide (V.int B.hi = V.int B.bar))]) (fun _ σ H' => H' = H6 ∧ ∃ y, σ = [some (.ref t), some (.ref m), some (.int B.N), some (.ref p), z, some (.bl (decide (V.int B.lo = V.int B.bar))), some (.bl (decide (V.int B.hi = V.int B.bar))), y]) ⟨rfl, _, rfl⟩ (fun _ _ _ _ ⟨e, _⟩ => by rw [e]; exact SqL.of hp2) ?_ ?_⟩
    · rintro k v σ H7 hv ⟨rfl, y, rfl⟩
      obtain ⟨c, rfl⟩ : ∃ c, v = V.bl c := by
        match k, hv with
        | 0, hv => exact ⟨_, (Option.some.inj hv).symm⟩
        | 1, hv => exact ⟨_, (Option.some.inj hv).symm⟩
        | k + 2, hv => simp at hv
      exact ⟨_, rfl, _, _, _, _, _, rfl, .ty _, .base (.bl _), kit_ty (by decide +kernel : kitB "bool" "bool" = some true), _, rfl, iteF ⟨rfl, _, rfl⟩⟩
    rintro σ H7 ⟨rfl, y, rfl⟩
    have W2' := W2
    obtain ⟨dx, gl, wn, wr, W⟩ := W2'
    obtain ⟨g, r, rr, M⟩ := M2
    refine ⟨_, rfl, t, dx, _, rfl, W.ob.1, bkf_no_blocked_down _ _ _ _ _ _ _, τ, i, t, B, rfl, W2, ho, _, rfl, rfl, _, rfl, ?_⟩
    rw [show (!decide (V.bl (decide (V.int B.lo = V.int B.bar)) = V.bl (decide (V.int B.lo = V.int B.bar)))) = false by simp]
    refine iteF ⟨_, rfl, t, dx, _, rfl, W.ob.1, bkf_no_blocked_up _ _ _ _ _ _ _, τ, i, t, B, rfl, W2, ho, _, rfl, rfl, _, rfl, ?_⟩
    rw [show (!decide (V.bl (decide (V.int B.hi = V.int B.bar)) = V.bl (decide (V.int B.hi = V.int B.bar)))) = false by simp]
    refine iteF ⟨_, rfl, _, rfl, _, rfl, m, _, rfl, SqL.of M.m.1, fun p3 n3 => ?_⟩
    have e3 : cutV [V.ref g, V.ref r, V.int B.c, V.int B.bar, V.int B.d, V.int B.s, V.int B.f] (some 2) none = [V.int B.c, V.int B.bar, V.int B.d, V.int B.s, V.int B.f] := cut_lo _ 2
    rw [e3]
    have s3 := sN (Same.refl H7) n3 (o := .lst [V.int B.c, V.int B.bar, V.int B.d, V.int B.s, V.int B.f])
    refine ⟨_, _, .lst (SqL.of (s3 _ _ hp)) (.cons (.int _) (.cons (.int _) (.cons (.int _) (.cons (.int _) (.cons (.int _) .nil))))), .lst (SqL.of upd_same) (.cons (.int _) (.cons (.int _) (.cons (.int _) (.cons (.int _) (.cons (.int _) .nil))))), rfl, rfl, ?_⟩
    have q' := q _ ((s1.trans s2).trans s3)
    rw [← SeqAt.eqv_refl (.list [.int B.c, .int B.bar, .int B.d, .int B.s, .int B.f]) rfl] at q'
    exact q'
theorem ok_law_reads (T : Txt K mg a) : FnOk P w K mg base CX0 4 a.f_law_reads a.d_law_reads ["banks", "model"] (spCounts a.C_Banks) := by
  have G_law_is_integer : FnOk P w K mg base CX0 1 _ _ _ _ := ok_law_is_integer T
  have G_law_get : FnOk P w K mg base CX0 2 _ _ _ _ := ok_law_get T
  have G_law_counts : FnOk P w K mg base CX0 3 _ _ _ _ := ok_law_counts T
  have G_Banks_read : FnOk P w K mg base CX0 2 _ _ _ _ := ok_Banks_read T
  refine T.F__law_reads.ok sc_law_reads (fun vs H Q E h => ?_) (fun cdv A outer s H vs Q E hr h => ?_)
  · obtain ⟨_, _, _, _, _, _, rfl, _⟩ := h; rfl
  · obtain ⟨τ, i, i', t, m, B, rfl, W0, M0, ho, q⟩ := h
    refine ⟨_, (pss_cons (ps_for PassesOwn.never rfl (pi_range1 rfl T.b_range (pa_cons pe_int pa_nil)) (pg_name (i := 2) sc_law_reads.nd rfl (Or.inl rfl)) (pss_cons (ps_set (i := 3) sc_law_reads.nd rfl (Or.inl rfl) (pe_meth (pv 0) T.cl_Banks T.m_Banks_read G_Banks_read (hr.mono (by decide)) T.bd_Banks_read .nil pass0 (pa_cons (pv 2) pa_nil)))
      (pss_one (ps_if (PW.pt (pw_or (pt_not (pt_val (pe_call G_law_is_integer (hr.mono (by decide)) rfl T.g__law_is_integer T.k__law_is_integer T.bd__law_is_integer .nil pass0 (pa_cons (pv 3) pa_nil)))) (pw_or1 (pt_cmpR op_ne (pv 3) (pe_call G_law_get (hr.mono (by decide)) rfl T.g__law_get T.k__law_get T.bd__law_get .nil pass0 (pa_cons (pv 1) (pa_cons (pv 2) pa_nil))) (nomark _))))) (pss_one (ps_ret pe_bl)) pss_nil))))
      (pss_one (ps_ret (pe_call G_law_counts (hr.mono (by decide)) rfl T.g__law_counts T.k__law_counts T.bd__law_counts .nil pass0 (pa_cons (pv 0) (pa_cons (pv 1) pa_nil)))))), ?_⟩
    refine ⟨32, rfl, by decide, by decide, for_range (lo := 0) (n := 32) (fun _ σ H' => Same H H' ∧ ∃ x y, σ = [some (.ref t), some (.ref m), x, y]) ⟨Same.refl H, none, none, rfl⟩ ?_ ?_⟩
    · rintro k σ H1 hk ⟨s1, x, y, rfl⟩
      have e0 : (0 : Int) + (k : Int) = (k : Int) := Int.zero_add _
      rw [e0]
      have W := W0.st (Stp.same (τ := τ) (S := []) s1) (by simp)
      have M := M0.st (Stp.same (τ := τ) (S := []) s1) (by simp)
      have W1 := W
      obtain ⟨dx, gl, wn, wr, Wx⟩ := W1
      refine ⟨_, rfl, t, dx, _, rfl, Wx.ob.1, bkf_no_read _ _ _ _ _ _ _, _, rfl, τ, i, t, B, k, rfl, W, ho, hk, ?_⟩
      refine ⟨_, rfl, _, rfl, _, rfl, iteF ⟨_, rfl, _, rfl, _, rfl, τ, i', m, B, k, rfl, M, ho, hk, fun H2 s2 => ⟨rfl, _, rfl, ?_⟩⟩⟩
      rw [neF rfl]
      exact iteF ⟨s1.trans s2, _, _, rfl⟩
    · rintro σ H1 ⟨s1, x, y, rfl⟩
      have W := W0.st (Stp.same (τ := τ) (S := []) s1) (by simp)
      have M := M0.st (Stp.same (τ := τ) (S := []) s1) (by simp)
      exact ⟨_, rfl, _, rfl, τ, i, i', t, m, B, rfl, W, M, ho, fun H2 s2 => q _ (s1.trans s2)⟩
theorem ok_law_shift (T : Txt K mg a) : FnOk P w K mg base CX0 5 a.f_law_shift a.d_law_shift ["state", "banks", "model", "choice"] (spShift K a.C_Banks) := by
  have G_law_pick : FnOk P w K mg base CX0 1 _ _ _ _ := ok_pickG T
  have G_law_is_integer : FnOk P w K mg base CX0 1 _ _ _ _ := ok_law_is_integer T
  have G_law_get : FnOk P w K mg base CX0 2 _ _ _ _ := ok_law_get T
  have G_law_set : FnOk P w K mg base CX0 2 _ _ _ _ := ok_law_set T
  have G_law_move : FnOk P w K mg base CX0 1 _ _ _ _ := ok_law_move T
  have G_Banks_shift_down : FnOk P w K mg base CX0 3 _ _ _ _ := ok_Banks_shift_down T
  have G_Banks_shift_up : FnOk P w K mg base CX0 2 _ _ _ _ := ok_Banks_shift_up T
  have G_Banks_trap_down : FnOk P w K mg base CX0 4 _ _ _ _ := ok_Banks_trap_down T
  have G_Banks_trap_up : FnOk P w K mg base CX0 4 _ _ _ _ := ok_Banks_trap_up T
  have G_Banks_leave_trap : FnOk P w K mg base CX0 3 _ _ _ _ := ok_Banks_leave_trap T
  refine T.F__law_shift.ok sc_law_shift (fun vs H Q E h => ?_) (fun cdv A outer s H vs Q E hr h => ?_)
  · obtain ⟨_, _, _, _, _, _, _, _, _, _, rfl, _⟩ := h; rfl
  · obtain ⟨τ, st, sa, ns, i, i', t, m, B, c, rfl, S, W, M, ho, hb, i4, i4', hii, q⟩ := h
    have n1 : i ∉ [4] := by simp; omega
    have n2 : i' ∉ [4] := by simp; omega
    have n3 : i ∉ [i'] := by simpa using hii
    have n4 : i' ∉ [i] := by simpa using Ne.symm hii
    have n5 : 4 ∉ [i] := by simp; omega
    have n6 : 6 ∉ [i] := by simp; omega
    have n7 : 4 ∉ [i'] := by simp; omega
    have n8 : 6 ∉ [i'] := by simp; omega
    have u1 : ∀ x ∈ [i], x ∈ [i, i', 4] := by simp
    have u2 : ∀ x ∈ [i'], x ∈ [i, i', 4] := by simp
    have u3 : ∀ x ∈ [4], x ∈ [i, i', 4] := by simp
    refine ⟨_, (pss_cons (ps_if (pt_cmpR op_lt (pv 3) pe_int (nomark _)) (pss_cons (ps_expr (pe_call G_law_move (hr.mono (by decide)) rfl T.g__law_move T.k__law_move T.bd__law_move .nil pass0 (pa_cons (pv 2) (pa_cons (pe_un un_neg pe_int) pa_nil))))
      (C8.pss_cut (ps_if (pt_cmpR op_ge (pe_ix ix_list (pv 2) pe_int (fun _ _ => rfl)) pe_int (nomark _)) (pss_one (ps_for PassesOwn.never rfl (pi_range2 rfl T.b_range (pa_cons pe_int (pa_cons pe_int pa_nil))) (pg_name (i := 4) sc_law_shift.nd rfl (Or.inl rfl)) (pss_one (ps_expr (pe_call G_law_set (hr.mono (by decide)) rfl T.g__law_set T.k__law_set T.bd__law_set .nil pass0 (pa_cons (pv 2) (pa_cons (pv 4) (pa_cons pe_int pa_nil)))))))) pss_nil)
      (pss_one (ps_ret (pe_cmpR op_isN (pe_meth0 (pv 1) T.cl_Banks T.m_Banks_shift_down G_Banks_shift_down (hr.mono (by decide)) T.bd_Banks_shift_down .nil pass0) pe_non (nomark _)))))) pss_nil)
      (pss_cons (ps_if (pt_cmpR op_eq (pv 3) pe_int (nomark _)) (pss_cons (ps_set (i := 5) sc_law_shift.nd rfl (Or.inl rfl) (pe_call G_law_pick (hr.mono (by decide)) rfl T.g__law_pick T.k__law_pick T.bd__law_pick .nil pass0 (pa_cons (pv 0) (pa_cons pe_int pa_nil))))
      (pss_cons (ps_expr (pe_call G_law_move (hr.mono (by decide)) rfl T.g__law_move T.k__law_move T.bd__law_move .nil pass0 (pa_cons (pv 2) (pa_cons (pe_un un_neg pe_int) pa_nil))))
      (pss_cons (ps_expr (pe_call G_law_set (hr.mono (by decide)) rfl T.g__law_set T.k__law_set T.bd__law_set .nil pass0 (pa_cons (pv 2) (pa_cons pe_int (pa_cons (pv 5) pa_nil)))))
      (pss_cons (ps_set (i := 6) sc_law_shift.nd rfl (Or.inl rfl) (pe_op op_add pe_int (pe_call G_law_pick (hr.mono (by decide)) rfl T.g__law_pick T.k__law_pick T.bd__law_pick .nil pass0 (pa_cons (pv 0) (pa_cons pe_int pa_nil)))))
      (pss_cons (ps_asg (pe_op op_add (pe_ix ix_list (pv 2) (pv 6) (fun _ _ => rfl)) pe_int) (pg_sub (pv 2) (pv 6) set_list))
      (pss_cons (ps_if (pt_cmpR op_eq (pv 6) pe_int (nomark _)) (pss_one (ps_ret (pe_cmpR op_isN (pe_meth (pv 1) T.cl_Banks T.m_Banks_trap_down G_Banks_trap_down (hr.mono (by decide)) T.bd_Banks_trap_down .nil pass0 (pa_cons (pv 5) pa_nil)) pe_non (nomark _)))) pss_nil)
      (pss_one (ps_ret (pe_cmpR op_isN (pe_meth (pv 1) T.cl_Banks T.m_Banks_trap_up G_Banks_trap_up (hr.mono (by decide)) T.bd_Banks_trap_up .nil pass0 (pa_cons (pv 5) pa_nil)) pe_non (nomark _)))))))))) pss_nil)
      (pss_cons (ps_if (pt_cmpR op_eq (pe_ix ix_list (pv 2) pe_int (fun _ _ => rfl)) pe_int (nomark _)) (pss_one (ps_ret pe_bl)) pss_nil)
      (pss_cons (ps_if (pt_cmpR op_eq (pv 3) pe_int (nomark _)) (pss_cons (ps_set (i := 7) sc_law_shift.nd rfl (Or.inl rfl) (pe_call G_law_get (hr.mono (by decide)) rfl T.g__law_get T.k__law_get T.bd__law_get .nil pass0 (pa_cons (pv 2) (pa_cons pe_int pa_nil))))
      (pss_cons (ps_expr (pe_call G_law_move (hr.mono (by decide)) rfl T.g__law_move T.k__law_move T.bd__law_move .nil pass0 (pa_cons (pv 2) (pa_cons pe_int pa_nil))))
      (pss_cons (ps_set (i := 8) sc_law_shift.nd rfl (Or.inl rfl) (pe_meth0 (pv 1) T.cl_Banks T.m_Banks_leave_trap G_Banks_leave_trap (hr.mono (by decide)) T.bd_Banks_leave_trap .nil pass0))
      (pss_one (ps_ret (pe_and (pe_call G_law_is_integer (hr.mono (by decide)) rfl T.g__law_is_integer T.k__law_is_integer T.bd__law_is_integer .nil pass0 (pa_cons (pv 8) pa_nil)) (pe_one (pe_cmpR op_eq (pv 8) (pv 7) (nomark _))))))))) pss_nil)
      (pss_cons (ps_expr (pe_call G_law_move (hr.mono (by decide)) rfl T.g__law_move T.k__law_move T.bd__law_move .nil pass0 (pa_cons (pv 2) (pa_cons pe_int pa_nil))))
      (pss_one (ps_ret (pe_cmpR op_isN (pe_meth0 (pv 1) T.cl_Banks T.m_Banks_shift_up G_Banks_shift_up (hr.mono (by decide)) T.bd_Banks_shift_up .nil pass0) pe_non (nomark _))))))))), ?_⟩
    refine ⟨_, rfl, _, _, rfl, rfl, _, rfl, ite3 (fun e => ?_) (fun e => ?_)⟩
    · -- a shift
      refine ⟨_, rfl, _, rfl, τ, i', m, B, B.gd, -1, rfl, M, ho, .inl ⟨rfl, rfl⟩, fun H1 M1 F1 => ?_⟩
      refine ⟨fun σ H' => BM τ i' H' m B.dn ∧ Stp τ τ [i'] H H' ∧ ∃ x, σ = [some (.ref st), some (.ref t), some (.ref m), some (.int c), x, none, none, none, none], ?_, ?_⟩
      · have M1' := M1
        obtain ⟨g, r, rr, Mx⟩ := M1'
        refine ⟨_, rfl, _, _, _, _, rfl, rfl, SqL.of Mx.m.1, rfl, _, _, rfl, rfl, _, rfl, ite3 (fun e1 => ?_) (fun e1 => ?_)⟩
        · have hb1 : B.gd.bar ≠ -1 := by have := of_decide_eq_true e1; omega
          refine ⟨_, _, rfl, ⟨by decide, by decide, by decide, by decide⟩, for_range (lo := 8) (n := 16) (fun k σ H' => k ≤ 16 ∧ BM τ i' H' m (B.gd.clr k) ∧ Stp τ τ [i'] H H' ∧ ∃ x, σ = [some (.ref st), some (.ref t), some (.ref m), some (.int c), x, none, none, none, none]) ⟨by decide, by rw [Bk.clr0]; exact M1, F1, _, rfl⟩ ?_ ?_⟩
          · rintro k σ H2 hk ⟨hk2, M2, F2, x, rfl⟩
            have e8 : (8 : Int) + (k : Int) = ((8 + k : Nat) : Int) := by omega
            rw [e8]
            refine ⟨_, rfl, _, rfl, τ, i', m, B.gd.clr k, 8 + k, 0, rfl, M2, ho.gd.clr hk2, by omega, fun H3 M3 F3 => ⟨by omega, ?_, F2.tr F3, _, rfl⟩⟩
            rw [← Bk.clr_wr ho.gd hk]
            exact M3
          · rintro σ H2 ⟨hk2, M2, F2, x, rfl⟩
            refine ⟨?_, F2, _, rfl⟩
            unfold Bk.dn
            rw [if_neg hb1]
            exact M2
        · have hb1 : B.gd.bar = -1 := by have := of_decide_eq_false e1; have hb' : -1 ≤ B.gd.bar := hb; omega
          refine ⟨?_, F1, _, rfl⟩
          unfold Bk.dn
          rw [if_pos hb1]
          exact M1
      · clear M1 F1
        rintro σ H1 ⟨M1, F1, x, rfl⟩
        have W1 := W.st F1 n3
        have S1 := S.step F1 n7 n8
        have W1' := W1
        obtain ⟨dx, gl, wn, wr, Wx⟩ := W1'
        refine ⟨_, rfl, t, dx, _, rfl, Wx.ob.1, bkf_no_shift_down _ _ _ _ _ _ _, τ, i, t, B, rfl, W1, ho, fun H2 W2 F2 => ⟨rfl, ?_⟩⟩
        rw [nonT]
        exact q τ H2 B.dn (S1.step F2 n5 n6) W2 (M1.st F2 n4) ho.dn (by rw [dn_N.2]; exact hb) dn_N.1 ((F1.mono u2).tr (F2.mono u1))
    refine ⟨_, rfl, rfl, _, rfl, ite3 (fun e1 => ?_) (fun e1 => ?_)⟩
    · -- a trap
      refine ⟨_, rfl, τ, st, sa, ns, 67108864, rfl, S, by decide, by decide, fun x H1 x0 x1 S1 F1 => ?_⟩
      have W1 := W.st F1 n1
      have M1 := M.st F1 n2
      refine ⟨_, rfl, _, rfl, τ, i', m, B, B.gd, -1, rfl, M1, ho, .inl ⟨rfl, rfl⟩, fun H2 M2 F2 => ?_⟩
      have W2 := W1.st F2 n3
      have S2 := S1.step F2 n7 n8
      refine ⟨_, rfl, _, rfl, τ, i', m, B.gd, 17, x, rfl, M2, ho.gd, by decide, fun H3 M3 F3 => ?_⟩
      have W3 := W2.st F3 n3
      have S3 := S2.step F3 n7 n8
      refine ⟨_, rfl, τ, st, sa, ns, 2, rfl, S3, by decide, by decide, fun v H4 v0 v1 S4 F4 => ⟨_, _, rfl, rfl, ?_⟩⟩
      have W4 := W3.st F4 n1
      have M4 := M3.st F4 n2
      have F4 := (((F1.mono u3).tr (F2.mono u2)).tr (F3.mono u2)).tr (F4.mono u3)
      obtain ⟨g, r, rr, Mx⟩ := M4
      obtain rfl | rfl : v = 0 ∨ v = 1 := by omega
      · refine ⟨_, rfl, _, rfl, _, _, _, _, rfl, rfl, SqL.of Mx.m.1, rfl, _, _, rfl, rfl, _, rfl, _, rfl, _, _, _, _, rfl, rfl, Mx.m.1, rfl, ?_⟩
        have M5 := Mx.fld (B' := B.td x) rfl rfl rfl
        have F5 := (Stp.refl (τ := τ) (S := [i']) (H := H4)).put (o := .lst [.ref g, .ref r, .int (B.td x).c, .int (B.td x).bar, .int (B.td x).d, .int (B.td x).s, .int (B.td x).f]) (mem1 Mx.m.2 rfl)
        have W5 := W4.st F5 n3
        have S5 := S4.step F5 n7 n8
        have W5' := W5
        obtain ⟨dx, gl, wn, wr, Wx⟩ := W5'
        refine ⟨_, rfl, rfl, _, rfl, iteT ?_⟩
        refine ⟨_, rfl, t, dx, _, rfl, Wx.ob.1, bkf_no_trap_down _ _ _ _ _ _ _, _, rfl, τ, i, t, B, x, rfl, W5, ho, fun H6 W6 F6 => ⟨rfl, ?_⟩⟩
        rw [nonT]
        exact q τ H6 (B.td x) (S5.step F6 n5 n6) W6 (BM.st ⟨g, r, rr, M5⟩ F6 n4) (ho.td x) hb rfl ((F4.tr (F5.mono u2)).tr (F6.mono u1))
      · refine ⟨_, rfl, _, rfl, _, _, _, _, rfl, rfl, SqL.of Mx.m.1, rfl, _, _, rfl, rfl, _, rfl, _, rfl, _, _, _, _, rfl, rfl, Mx.m.1, rfl, ?_⟩
        have M5 := Mx.fld (B' := B.tu x) rfl rfl rfl
        have F5 := (Stp.refl (τ := τ) (S := [i']) (H := H4)).put (o := .lst [.ref g, .ref r, .int (B.tu x).c, .int (B.tu x).bar, .int (B.tu x).d, .int (B.tu x).s, .int (B.tu x).f]) (mem1 Mx.m.2 rfl)
        have W5 := W4.st F5 n3
        have S5 := S4.step F5 n7 n8
        have W5' := W5
        obtain ⟨dx, gl, wn, wr, Wx⟩ := W5'
        refine ⟨_, rfl, rfl, _, rfl, iteF ?_⟩
        refine ⟨_, rfl, t, dx, _, rfl, Wx.ob.1, bkf_no_trap_up _ _ _ _ _ _ _, _, rfl, τ, i, t, B, x, rfl, W5, ho, fun H6 W6 F6 => ⟨rfl, ?_⟩⟩
        rw [nonT]
        exact q τ H6 (B.tu x) (S5.step F6 n5 n6) W6 (BM.st ⟨g, r, rr, M5⟩ F6 n4) (ho.tu x) hb rfl ((F4.tr (F5.mono u2)).tr (F6.mono u1))
    have M' := M
    obtain ⟨g, r, rr, Mx⟩ := M'
    refine ⟨_, rfl, _, _, _, _, rfl, rfl, SqL.of Mx.m.1, rfl, rfl, _, rfl, ite3 (fun e2 => ?_) (fun e2 => ?_)⟩
    · exact q τ H B S W M ho hb rfl Stp.refl
    refine ⟨_, rfl, rfl, _, rfl, ite3 (fun e3 => ?_) (fun e3 => ?_)⟩
    · refine ⟨_, rfl, τ, i', m, B, 17, rfl, M, ho, by decide, fun H1 s1 => ?_⟩
      have F1 := Stp.same (τ := τ) (S := []) s1
      have W1 := W.st F1 (by simp)
      have M1 := M.st F1 (by simp)
      have S1 := S.step F1 (by simp) (by simp)
      refine ⟨_, rfl, τ, i', m, B, B.up, 1, rfl, M1, ho, .inr ⟨rfl, rfl⟩, fun H2 M2 F2 => ?_⟩
      have W2 := W1.st F2 n3
      have S2 := S1.step F2 n7 n8
      have W2' := W2
      obtain ⟨dx, gl, wn, wr, Wx⟩ := W2'
      refine ⟨_, rfl, t, dx, _, rfl, Wx.ob.1, bkf_no_leave_trap _ _ _ _ _ _ _, τ, i, t, B, rfl, W2, ho, fun H3 W3 F3 => ?_⟩
      refine ⟨_, rfl, _, rfl, _, rfl, iteT ⟨_, rfl, _, rfl, rfl, ?_⟩⟩
      rw [eqT rfl]
      exact q τ H3 B.up (S2.step F3 n5 n6) W3 (M2.st F3 n4) ho.up hb rfl (((F1.mono (by simp)).tr (F2.mono u2)).tr (F3.mono u1))
    · refine ⟨_, rfl, τ, i', m, B, B.up, 1, rfl, M, ho, .inr ⟨rfl, rfl⟩, fun H2 M2 F2 => ?_⟩
      have W2 := W.st F2 n3
      have S2 := S.step F2 n7 n8
      have W2' := W2
      obtain ⟨dx, gl, wn, wr, Wx⟩ := W2'
      refine ⟨_, rfl, t, dx, _, rfl, Wx.ob.1, bkf_no_shift_up _ _ _ _ _ _ _, τ, i, t, B, rfl, W2, ho, fun H3 W3 F3 => ⟨rfl, ?_⟩⟩
      rw [nonT]
      exact q τ H3 B.up (S2.step F3 n5 n6) W3 (M2.st F3 n4) ho.up hb rfl ((F2.mono u2).tr (F3.mono u1))
end

section
variable {P : Program} {w : World} {K : PySem.W.Frag} {mg : Str → Option Value} {base : Heap} {a : Ad}
theorem ok_law_deed (T : Txt K mg a) : FnOk P w K mg base CX0 6 a.f_law_deed a.d_law_deed ["state", "banks", "model"] (spDeed K a.C_Banks) := by
  have G_law_pick : FnOk P w K mg base CX0 1 _ _ _ _ := ok_pickG T
  have G_law_word : FnOk P w K mg base CX0 2 _ _ _ _ := ok_law_word T
  have G_law_is_integer : FnOk P w K mg base CX0 1 _ _ _ _ := ok_law_is_integer T
  have G_law_get : FnOk P w K mg base CX0 2 _ _ _ _ := ok_law_get T
  have G_law_set : FnOk P w K mg base CX0 2 _ _ _ _ := ok_law_set T
  have G_law_shift : FnOk P w K mg base CX0 5 _ _ _ _ := ok_law_shift T
  have G_Banks_read : FnOk P w K mg base CX0 2 _ _ _ _ := ok_Banks_read T
  have G_Banks_write : FnOk P w K mg base CX0 2 _ _ _ _ := ok_Banks_write T
  have G_Banks_set_bar : FnOk P w K mg base CX0 1 _ _ _ _ := ok_Banks_set_bar T
  refine T.F__law_deed.ok sc_law_deed (fun vs H Q E h => ?_) (fun cdv A outer s H vs Q E hr h => ?_)
  · obtain ⟨_, _, _, _, _, _, _, _, _, rfl, _⟩ := h; rfl
  · obtain ⟨τ, st, sa, ns, i, i', t, m, B, rfl, S, W, M, ho, hb, i4, i4', hii, q⟩ := h
    have n1 : i ∉ [4] := by simp; omega
    have n2 : i' ∉ [4] := by simp; omega
    have n3 : i ∉ [i'] := by simpa using hii
    have n4 : i' ∉ [i] := by simpa using Ne.symm hii
    have n5 : 4 ∉ [i] := by simp; omega
    have n6 : 6 ∉ [i] := by simp; omega
    have n7 : 4 ∉ [i'] := by simp; omega
    have n8 : 6 ∉ [i'] := by simp; omega
    have u1 : ∀ x ∈ [i], x ∈ [i, i', 4] := by simp
    have u2 : ∀ x ∈ [i'], x ∈ [i, i', 4] := by simp
    have u3 : ∀ x ∈ [4], x ∈ [i, i', 4] := by simp
    refine ⟨_, (pss_cons (ps_set (i := 3) sc_law_deed.nd rfl (Or.inl rfl) (pe_call G_law_pick (hr.mono (by decide)) rfl T.g__law_pick T.k__law_pick T.bd__law_pick .nil pass0 (pa_cons (pv 0) (pa_cons pe_int pa_nil))))
      (pss_cons (ps_if (pt_cmpR op_lt (pv 3) pe_int (nomark _)) (pss_one (ps_ret (pe_call G_law_shift (hr.mono (by decide)) rfl T.g__law_shift T.k__law_shift T.bd__law_shift .nil pass0 (pa_cons (pv 0) (pa_cons (pv 1) (pa_cons (pv 2) (pa_cons (pv 3) pa_nil))))))) pss_nil)
      (pss_cons (ps_if (pt_cmpR op_eq (pv 3) pe_int (nomark _)) (pss_cons (ps_asg (pe_op op_sub (pe_call G_law_pick (hr.mono (by decide)) rfl T.g__law_pick T.k__law_pick T.bd__law_pick .nil pass0 (pa_cons (pv 0) (pa_cons (pe_op op_add (pe_callB call_len_seq (by rfl) T.b_len (by decide +kernel) (pa_cons (pe_ix ix_list (pv 2) pe_int (fun _ _ => rfl)) pa_nil)) pe_int) pa_nil))) pe_int) (pg_sub (pv 2) pe_int set_list))
      (pss_one (ps_ret (pe_cmpR op_isN (pe_meth (pv 1) T.cl_Banks T.m_Banks_set_bar G_Banks_set_bar (hr.mono (by decide)) T.bd_Banks_set_bar .nil pass0 (pa_cons (pe_ix ix_list (pv 2) pe_int (fun _ _ => rfl)) pa_nil)) pe_non (nomark _))))) pss_nil)
      (pss_cons (ps_set (i := 4) sc_law_deed.nd rfl (Or.inl rfl) (pe_call G_law_pick (hr.mono (by decide)) rfl T.g__law_pick T.k__law_pick T.bd__law_pick .nil pass0 (pa_cons (pv 0) (pa_cons pe_int pa_nil))))
      (C8.pss_cut (ps_if (pt_cmpR op_lt (pv 3) pe_int (nomark _)) (pss_cons (ps_set (i := 5) sc_law_deed.nd rfl (Or.inl rfl) (pe_call G_law_word (hr.mono (by decide)) rfl T.g__law_word T.k__law_word T.bd__law_word .nil pass0 (pa_cons (pv 0) pa_nil)))
      (pss_cons (ps_expr (pe_call G_law_set (hr.mono (by decide)) rfl T.g__law_set T.k__law_set T.bd__law_set .nil pass0 (pa_cons (pv 2) (pa_cons (pv 4) (pa_cons (pv 5) pa_nil)))))
      (pss_one (ps_if (pt_cmpR op_notN (pe_meth (pv 1) T.cl_Banks T.m_Banks_write G_Banks_write (hr.mono (by decide)) T.bd_Banks_write .nil pass0 (pa_cons (pv 4) (pa_cons (pv 5) pa_nil))) pe_non (nomark _)) (pss_one (ps_ret pe_bl)) pss_nil)))) pss_nil)
      (pss_cons (ps_set (i := 5) sc_law_deed.nd rfl (Or.inl rfl) (pe_meth (pv 1) T.cl_Banks T.m_Banks_read G_Banks_read (hr.mono (by decide)) T.bd_Banks_read .nil pass0 (pa_cons (pv 4) pa_nil)))
      (pss_one (ps_ret (pe_and (pe_call G_law_is_integer (hr.mono (by decide)) rfl T.g__law_is_integer T.k__law_is_integer T.bd__law_is_integer .nil pass0 (pa_cons (pv 5) pa_nil)) (pe_one (pe_cmpR op_eq (pv 5) (pe_call G_law_get (hr.mono (by decide)) rfl T.g__law_get T.k__law_get T.bd__law_get .nil pass0 (pa_cons (pv 2) (pa_cons (pv 4) pa_nil))) (nomark _)))))))))))), ?_⟩
    refine ⟨_, rfl, τ, st, sa, ns, 14, rfl, S, by decide, by decide, fun c H1 c0 c1 S1 F1 => ?_⟩
    have W1 := W.st F1 n1
    have M1 := M.st F1 n2
    have F1 := F1.mono u3
    clear S W M
    refine ⟨_, rfl, _, _, rfl, rfl, _, rfl, ite3 (fun e => ?_) (fun e => ?_)⟩
    · exact ⟨_, rfl, _, rfl, _, rfl, _, rfl, τ, st, sa, ns, i, i', t, m, B, c, rfl, S1, W1, M1, ho, hb, i4, i4', hii, fun τ' H' B' s' w' m' o' b' nn F' => q τ' H' B' s' w' m' o' b' nn (F1.tr F')⟩
    refine ⟨_, rfl, rfl, _, rfl, ite3 (fun e1 => ?_) (fun e1 => ?_)⟩
    · have M1' := M1
      obtain ⟨g, r, rr, Mx⟩ := M1'
      have hN := ho.n32
      refine ⟨_, rfl, _, rfl, _, _, _, _, rfl, rfl, SqL.of Mx.m.1, rfl, _, _, rfl, .inl (SqL.of Mx.r.1), _, _, rfl, rfl, τ, st, sa, ns, _, rfl, S1, by rw [rng_len]; omega, by rw [rng_len]; omega, fun v H2 v0 v1 S2 F2 => ⟨_, _, rfl, rfl, ?_⟩⟩
      have W2 := W1.st F2 n1
      have M2 := Mx.st F2 n2
      refine ⟨_, rfl, _, _, _, _, rfl, rfl, M2.m.1, rfl, ?_⟩
      have M3 := M2.fld (B' := B.sb (v - 1)) rfl rfl rfl
      have F3 := (Stp.refl (τ := τ) (S := [i']) (H := H2)).put (o := .lst [.ref g, .ref r, .int (B.sb (v - 1)).c, .int (B.sb (v - 1)).bar, .int (B.sb (v - 1)).d, .int (B.sb (v - 1)).s, .int (B.sb (v - 1)).f]) (mem1 M2.m.2 rfl)
      have W3 := W2.st F3 n3
      have S3 := S2.step F3 n7 n8
      have W3' := W3
      obtain ⟨dx, gl, wn, wr, Wx⟩ := W3'
      refine ⟨_, rfl, t, dx, _, rfl, Wx.ob.1, bkf_no_set_bar _ _ _ _ _ _ _, _, rfl, _, _, _, _, rfl, rfl, SqL.of M3.m.1, rfl, τ, i, t, B, v - 1, rfl, W3, ho, fun H4 W4 F4 => ⟨rfl, ?_⟩⟩
      rw [nonT]
      exact q τ H4 (B.sb (v - 1)) (S3.step F4 n5 n6) W4 (BM.st ⟨g, r, rr, M3⟩ F4 n4) (ho.sb _) (by show -1 ≤ v - 1; omega) rfl (((F1.tr (F2.mono u3)).tr (F3.mono u2)).tr (F4.mono u1))
    refine ⟨_, rfl, τ, st, sa, ns, 32, rfl, S1, by decide, by decide, fun v H2 v0 v1 S2 F2 => ?_⟩
    obtain ⟨k, rfl⟩ : ∃ k : Nat, v = (k : Int) := ⟨v.toNat, by omega⟩
    have hk : k < 32 := by omega
    have W2 := W1.st F2 n1
    have M2 := M1.st F2 n2
    have F2 := F1.tr (F2.mono u3)
    clear S1 W1 M1 F1
    refine ⟨fun σ H' => ∃ τ' B' x, StG K τ' H' st sa ns ∧ BW a.C_Banks τ' i H' t B' ∧ BM τ' i' H' m B' ∧ B'.ok ∧ -1 ≤ B'.bar ∧ B'.N = B.N ∧ Stp τ τ' [i, i', 4] H H' ∧ σ = [some (.ref st), some (.ref t), some (.ref m), some (.int c), some (.int k), x], ?_, ?_⟩
    · refine ⟨_, rfl, _, _, rfl, rfl, _, rfl, ite3 (fun e2 => ?_) (fun e2 => ?_)⟩
      · refine ⟨_, rfl, τ, st, sa, ns, rfl, S2, fun τ3 x H3 x0 x1 S3 F3 => ?_⟩
        have W3 := W2.st F3 n1
        have M3 := M2.st F3 n2
        refine ⟨_, rfl, _, rfl, _, rfl, τ3, i', m, B, k, x, rfl, M3, ho, hk, fun H4 M4 F4 => ?_⟩
        have W4 := W3.st F4 n3
        have S4 := S3.step F4 n7 n8
        have W4' := W4
        obtain ⟨dx, gl, wn, wr, Wx⟩ := W4'
        refine ⟨_, rfl, t, dx, _, rfl, Wx.ob.1, bkf_no_write _ _ _ _ _ _ _, _, rfl, _, rfl, τ3, i, t, B, k, x, rfl, W4, ho, hk, fun H5 W5 F5 => ⟨rfl, _, rfl, ?_⟩⟩
        rw [show (!decide (V.non = V.non)) = false by rw [nonT]; rfl]
        exact iteF ⟨τ3, B.wr k x, _, S4.step F5 n5 n6, W5, M4.st F5 n4, ho.wr k x, by (unfold Bk.wr; repeat' split) <;> exact hb, Bk.wr_N k x, ((F2.tr (F3.mono u3)).tr (F4.mono u2)).tr (F5.mono u1), rfl⟩
      · exact ⟨τ, B, _, S2, W2, M2, ho, hb, rfl, F2, rfl⟩
    clear S2 W2 M2 F2
    rintro σ H3 ⟨τ3, B', x, S3, W3, M3, ho', hb', hN', F3, rfl⟩
    have W3' := W3
    obtain ⟨dx, gl, wn, wr, Wx⟩ := W3'
    refine ⟨_, rfl, t, dx, _, rfl, Wx.ob.1, bkf_no_read _ _ _ _ _ _ _, _, rfl, τ3, i, t, B', k, rfl, W3, ho', hk, ?_⟩
    refine ⟨_, rfl, _, rfl, _, rfl, iteT ⟨_, rfl, _, rfl, _, rfl, τ3, i', m, B', k, rfl, M3, ho', hk, fun H4 s4 => ⟨rfl, ?_⟩⟩⟩
    rw [eqT rfl]
    have F4 := Stp.same (τ := τ3) (S := []) s4
    exact q τ3 H4 B' (S3.step F4 (by simp) (by simp)) (W3.st F4 (by simp)) (M3.st F4 (by simp)) ho' hb' hN' (F3.tr (F4.mono (by simp)))
/-! ### the law -/
def spLaw (K : PySem.W.Frag) : Sp := fun vs H Q _ => ∃ (a : Addr) (ns : List Int), vs = [.ref a] ∧ SqL K H a (ns.map V.int) ∧ ns.length ≤ 63 ∧ ∀ H', Q (.bl true) H'
end
structure LJ (K : PySem.W.Frag) (C : Addr) (τ : Tg) (H : Hp) (st sa : Addr) (ns : List Int) (t m : Addr) (n : Nat) (B : Bk) : Prop where
  s : StG K τ H st sa ns
  W : BW C τ 0 H t B
  M : BM τ 1 H m B
  o : B.ok
  b : -1 ≤ B.bar
  n : B.N = n
section
variable {K : PySem.W.Frag} {C : Addr} {τ τ' : Tg} {H H' : Hp} {st sa t m : Addr} {ns : List Int} {n : Nat} {B : Bk}
theorem LJ.same (h : LJ K C τ H st sa ns t m n B) (s : Same H H') : LJ K C τ H' st sa ns t m n B :=
  ⟨h.s.step (Stp.same (S := []) s) (by simp) (by simp), h.W.st (Stp.same (S := []) s) (by simp), h.M.st (Stp.same (S := []) s) (by simp), h.o, h.b, h.n⟩
theorem LJ.step (h : LJ K C τ H st sa ns t m n B) (S : Stp τ τ' [4] H H') (st' : StG K τ' H' st sa ns) : LJ K C τ' H' st sa ns t m n B :=
  ⟨st', h.W.st S (by simp), h.M.st S (by simp), h.o, h.b, h.n⟩
end
section
variable {P : Program} {w : World} {K : PySem.W.Frag} {mg : Str → Option Value} {base : Heap} {a : Ad}
theorem ok_law (T : Txt K mg a) : FnOk P w K mg base CX0 9 a.f_law a.d_law ["script"] (spLaw K) := by
  have G_law_pick : FnOk P w K mg base CX0 1 _ _ _ _ := ok_pickG T
  have G_law_set : FnOk P w K mg base CX0 2 _ _ _ _ := ok_law_set T
  have G_law_move : FnOk P w K mg base CX0 1 _ _ _ _ := ok_law_move T
  have G_law_counts : FnOk P w K mg base CX0 3 _ _ _ _ := ok_law_counts T
  have G_law_reads : FnOk P w K mg base CX0 4 _ _ _ _ := ok_law_reads T
  have G_law_deed : FnOk P w K mg base CX0 6 _ _ _ _ := ok_law_deed T
  have G_Banks___init__ : FnOk P w K mg base CX0 1 _ _ _ _ := ok_Banks___init__ T
  have G_Banks_shift_down : FnOk P w K mg base CX0 3 _ _ _ _ := ok_Banks_shift_down T
  have G_Banks_set_bar : FnOk P w K mg base CX0 1 _ _ _ _ := ok_Banks_set_bar T
  refine T.F_law.ok sc_law (fun vs H Q E h => ?_) (fun cdv A outer s H vs Q E hr h => ?_)
  · obtain ⟨_, _, rfl, _⟩ := h; rfl
  · obtain ⟨sa, ns, rfl, hS, hlen, q⟩ := h
    refine ⟨_, (pss_cons (ps_set (i := 1) sc_law.nd rfl (Or.inl rfl) (pe_lst (pa_cons (pv 0) (pa_cons pe_int (pa_cons pe_int (pa_cons pe_int pa_nil))))))
      (pss_cons (ps_set (i := 2) sc_law.nd rfl (Or.inl rfl) (pe_op op_add pe_int (pe_call G_law_pick (hr.mono (by decide)) rfl T.g__law_pick T.k__law_pick T.bd__law_pick .nil pass0 (pa_cons (pv 1) (pa_cons pe_int pa_nil)))))
      (C8.pss_cut (ps_if (pt_cmpR op_eq (pe_call G_law_pick (hr.mono (by decide)) rfl T.g__law_pick T.k__law_pick T.bd__law_pick .nil pass0 (pa_cons (pv 1) (pa_cons pe_int pa_nil))) pe_int (nomark _)) (pss_one (ps_set (i := 2) sc_law.nd rfl (Or.inl rfl) (pe_op op_add pe_int (pe_call G_law_pick (hr.mono (by decide)) rfl T.g__law_pick T.k__law_pick T.bd__law_pick .nil pass0 (pa_cons (pv 1) (pa_cons pe_int pa_nil)))))) pss_nil)
      (pss_cons (ps_set (i := 3) sc_law.nd rfl (Or.inl rfl) (pe_make T.mk_Banks G_Banks___init__ (hr.mono (by decide)) rfl T.g_Banks T.bd_Banks___init__ .nil pass0 (pa_cons (pv 2) pa_nil)))
      (pss_cons (ps_set (i := 4) sc_law.nd rfl (Or.inl rfl) (pe_lst (pa_cons (pe_op op_rep (pe_lst (pa_cons pe_int pa_nil)) pe_int) (pa_cons (pe_lc (own := [("k", 5)]) (g := gName 5) rfl sc_law.nd (pi_range1 rfl T.b_range (pa_cons (pv 2) pa_nil)) (blkOk_by (own := [("k", 5)]) (N := ["script", "state", "windows", "banks", "model", "k", "turn", "number"]) (sc := defScope s_law) (by decide +kernel)) (fun _ _ _ _ _ => pg_name (i := 5) sc_law.nd rfl (Or.inl rfl)) (fun _ _ _ _ _ => pts_nil) (fun _ _ _ _ _ => (pe_op op_rep (pe_lst (pa_cons pe_int pa_nil)) pe_int))) (pa_cons pe_int (pa_cons pe_int (pa_cons pe_int (pa_cons pe_int (pa_cons pe_int pa_nil)))))))))
      (pss_cons (ps_if (pt_not (pt_val (pe_call G_law_reads (hr.mono (by decide)) rfl T.g__law_reads T.k__law_reads T.bd__law_reads .nil pass0 (pa_cons (pv 3) (pa_cons (pv 4) pa_nil))))) (pss_one (ps_ret pe_bl)) pss_nil)
      (pss_cons (ps_for PassesOwn.never rfl (pi_range1 rfl T.b_range (pa_cons (pe_op op_add pe_int (pe_call G_law_pick (hr.mono (by decide)) rfl T.g__law_pick T.k__law_pick T.bd__law_pick .nil pass0 (pa_cons (pv 1) (pa_cons pe_int pa_nil)))) pa_nil)) (pg_name (i := 6) sc_law.nd rfl (Or.inl rfl)) (pss_one (ps_if (PW.pt (pw_or (pt_not (pt_val (pe_call G_law_deed (hr.mono (by decide)) rfl T.g__law_deed T.k__law_deed T.bd__law_deed .nil pass0 (pa_cons (pv 1) (pa_cons (pv 3) (pa_cons (pv 4) pa_nil)))))) (pw_or1 (pt_not (pt_val (pe_call G_law_counts (hr.mono (by decide)) rfl T.g__law_counts T.k__law_counts T.bd__law_counts .nil pass0 (pa_cons (pv 3) (pa_cons (pv 4) pa_nil)))))))) (pss_one (ps_ret pe_bl)) pss_nil)))
      (C8.pss_cut (ps_if (pt_cmpR op_eq (pe_call G_law_pick (hr.mono (by decide)) rfl T.g__law_pick T.k__law_pick T.bd__law_pick .nil pass0 (pa_cons (pv 1) (pa_cons pe_int pa_nil))) pe_int (nomark _)) (pss_cons (ps_expr (pe_meth (pv 3) T.cl_Banks T.m_Banks_set_bar G_Banks_set_bar (hr.mono (by decide)) T.bd_Banks_set_bar .nil pass0 (pa_cons (pe_un un_neg pe_int) pa_nil)))
      (pss_one (ps_asg (pe_un un_neg pe_int) (pg_sub (pv 4) pe_int set_list)))) pss_nil)
      (pss_cons (ps_for PassesOwn.never rfl (pi_range1 rfl T.b_range (pa_cons (pv 2) pa_nil)) (pg_name (i := 5) sc_law.nd rfl (Or.inl rfl)) (pss_cons (ps_if (pt_not (pt_val (pe_call G_law_reads (hr.mono (by decide)) rfl T.g__law_reads T.k__law_reads T.bd__law_reads .nil pass0 (pa_cons (pv 3) (pa_cons (pv 4) pa_nil))))) (pss_one (ps_ret pe_bl)) pss_nil)
      (pss_cons (ps_expr (pe_call G_law_move (hr.mono (by decide)) rfl T.g__law_move T.k__law_move T.bd__law_move .nil pass0 (pa_cons (pv 4) (pa_cons (pe_un un_neg pe_int) pa_nil))))
      (C8.pss_cut (ps_if (pt_cmpR op_ge (pe_ix ix_list (pv 4) pe_int (fun _ _ => rfl)) pe_int (nomark _)) (pss_one (ps_for PassesOwn.never rfl (pi_range2 rfl T.b_range (pa_cons pe_int (pa_cons pe_int pa_nil))) (pg_name (i := 7) sc_law.nd rfl (Or.inl rfl)) (pss_one (ps_expr (pe_call G_law_set (hr.mono (by decide)) rfl T.g__law_set T.k__law_set T.bd__law_set .nil pass0 (pa_cons (pv 4) (pa_cons (pv 7) (pa_cons pe_int pa_nil)))))))) pss_nil)
      (pss_one (ps_expr (pe_meth0 (pv 3) T.cl_Banks T.m_Banks_shift_down G_Banks_shift_down (hr.mono (by decide)) T.bd_Banks_shift_down .nil pass0)))))))
      (pss_cons (ps_expr (pe_meth (pv 3) T.cl_Banks T.m_Banks_set_bar G_Banks_set_bar (hr.mono (by decide)) T.bd_Banks_set_bar .nil pass0 (pa_cons (pe_un un_neg pe_int) pa_nil)))
      (pss_cons (ps_asg (pe_un un_neg pe_int) (pg_sub (pv 4) pe_int set_list))
      (pss_cons (ps_for PassesOwn.never rfl (pi_range1 rfl T.b_range (pa_cons (pv 2) pa_nil)) (pg_name (i := 5) sc_law.nd rfl (Or.inl rfl)) (pss_cons (ps_if (pt_not (pt_val (pe_call G_law_reads (hr.mono (by decide)) rfl T.g__law_reads T.k__law_reads T.bd__law_reads .nil pass0 (pa_cons (pv 3) (pa_cons (pv 4) pa_nil))))) (pss_one (ps_ret pe_bl)) pss_nil)
      (pss_cons (ps_expr (pe_call G_law_move (hr.mono (by decide)) rfl T.g__law_move T.k__law_move T.bd__law_move .nil pass0 (pa_cons (pv 4) (pa_cons (pe_un un_neg pe_int) pa_nil))))
      (pss_one (ps_expr (pe_meth0 (pv 3) T.cl_Banks T.m_Banks_shift_down G_Banks_shift_down (hr.mono (by decide)) T.bd_Banks_shift_down .nil pass0))))))
      (pss_one (ps_ret pe_bl)))))))))))))), ?_⟩
    refine ⟨_, rfl, (by show 4 ≤ sizeLine; decide), fun st nst => ?_⟩
    have S0 := StG.first hS nst
    generalize upd H st (.lst [V.ref sa, V.int 0, V.int 0, V.int 0]) = H0 at S0 ⊢
    generalize tgN (fun _ => (6, 0, 0)) st (4, 0, 0) = τ0 at S0
    refine ⟨_, rfl, τ0, st, sa, ns, 4, rfl, S0, by decide, by decide, fun v H1 v0 v1 S1 F1 => ⟨_, _, rfl, rfl, ?_⟩⟩
    clear S0 F1
    refine ⟨fun σ H' => StG K τ0 H' st sa ns ∧ ∃ n : Nat, 3 ≤ n ∧ n ≤ 32 ∧ σ = [some (.ref sa), some (.ref st), some (.int n), none, none, none, none, none], ?_, ?_⟩
    · refine ⟨_, rfl, τ0, st, sa, ns, 6, rfl, S1, by decide, by decide, fun c H2 c0 c1 S2 F2 => ⟨rfl, _, rfl, ite3 (fun e => ?_) (fun e => ?_)⟩⟩
      · refine ⟨_, rfl, τ0, st, sa, ns, 30, rfl, S2, by decide, by decide, fun u H3 u0 u1 S3 F3 => ⟨_, _, rfl, rfl, S3, (3 + u).toNat, by omega, by omega, ?_⟩⟩
        rw [show (((3 + u).toNat : Nat) : Int) = 3 + u by omega]
        rfl
      · refine ⟨S2, (3 + v).toNat, by omega, by omega, ?_⟩
        rw [show (((3 + v).toNat : Nat) : Int) = 3 + v by omega]
        rfl
    clear S1 v0 v1
    rintro σ H2 ⟨S2, n, n3, n32, rfl⟩
    -- the banks
    refine ⟨_, rfl, fun x0 dx0 nx0 ndx0 nex0 => ?_⟩
    have Fa := ((Stp.refl (τ := τ0) (S := []) (H := H2)).new ndx0 (o := .own x0) (x := (7, 0, 0))).new (p := x0) (o := .ins a.C_Banks dx0 []) (x := (0, 0, 0)) (by rw [upd_ne nex0.symm]; exact nx0)
    have aa : At (tgN (tgN τ0 dx0 (7, 0, 0)) x0 (0, 0, 0)) (upd (upd H2 dx0 (.own x0)) x0 (.ins a.C_Banks dx0 [])) x0 _ _ := At.mk
    have S3 := S2.step Fa (by simp) (by simp)
    generalize upd (upd H2 dx0 (.own x0)) x0 (.ins a.C_Banks dx0 []) = H3 at aa S3 ⊢
    generalize tgN (tgN τ0 dx0 (7, 0, 0)) x0 (0, 0, 0) = τ3 at aa S3
    clear Fa S2 nx0 ndx0
    refine ⟨τ3, 0, x0, dx0, n, rfl, n3, n32, aa, fun τ4 H4 W4 F4 => ⟨rfl, ?_⟩⟩
    have S4 := S3.step F4 (by simp) (by simp)
    clear aa S3 F4
    -- the model
    refine ⟨(by show 1 ≤ sizeLine; decide), fun b1 m1 => ⟨_, _, _, rfl, rfl, upd_same, by decide, by decide, (by show 1 * 8 ≤ sizeLine; decide), fun g ng => ?_⟩⟩
    rw [show (List.replicate (8 : Int).toNat [V.int 0]).flatten = (List.replicate 8 (0 : Int)).map V.int from rep_int 8]
    have F5 := (Stp.same (τ := τ4) (S := []) (sN (Same.refl H4) m1 (o := .lst [V.int 0]))).new ng (o := .lst ((List.replicate 8 (0 : Int)).map V.int)) (x := (1, 1, 0))
    have ag : At (tgN τ4 g (1, 1, 0)) (upd (upd H4 b1 (.lst [V.int 0])) g (.lst ((List.replicate 8 (0 : Int)).map V.int))) g _ _ := At.mk
    have S5 := S4.step F5 (by simp) (by simp)
    have W5 := W4.st F5 (by simp)
    generalize upd (upd H4 b1 (.lst [V.int 0])) g (.lst ((List.replicate 8 (0 : Int)).map V.int)) = H5 at ag S5 W5 ⊢
    generalize tgN τ4 g (1, 1, 0) = τ5 at ag S5 W5
    clear F5 S4 W4 ng m1
    refine ⟨_, rfl, _, rfl, by omega, by omega, fun D nD => ?_⟩
    have F6 := (Stp.refl (τ := τ5) (S := []) (H := H5)).new nD (o := .lst []) (x := (1, 2, 0))
    have aD : At (tgN τ5 D (1, 2, 0)) (upd H5 D (.lst [])) D _ _ := At.mk
    have ag6 := ag.new nD (u := .lst []) (y := (1, 2, 0))
    refine lc_range (lo := 0) (n := (n : Int).toNat) (fun k H' => ∃ τ' rr, StG K τ' H' st sa ns ∧ BW a.C_Banks τ' 0 H' x0 (.zero n) ∧ At τ' H' g (.lst ((List.replicate 8 (0 : Int)).map V.int)) (1, 1, 0) ∧ At τ' H' D (.lst ((List.range k).map fun j => V.ref (rr j))) (1, 2, 0) ∧ ∀ j, j < k → At τ' H' (rr j) (.lst ((List.replicate 16 (0 : Int)).map V.int)) (1, 3, j))
      ⟨_, fun _ => 0, S5.step F6 (by simp) (by simp), W5.st F6 (by simp), ag6, aD, fun j hj => absurd hj (Nat.not_lt_zero j)⟩ ?_ ?_
    · clear F6 aD ag6 S5 W5 ag
      rintro k H6 hk ⟨τ6, rr, S6, W6, ag, aD, ar⟩
      refine ⟨rfl, (by show 1 ≤ sizeLine; decide), fun b1 m1 => ⟨_, _, _, rfl, rfl, upd_same, by decide, by decide, (by show 1 * 16 ≤ sizeLine; decide), fun p np => ?_⟩⟩
      rw [show (List.replicate (16 : Int).toNat [V.int 0]).flatten = (List.replicate 16 (0 : Int)).map V.int from rep_int 16]
      have s1 := sN (Same.refl H6) m1 (o := .lst [V.int 0])
      have F7 := (Stp.same (τ := τ6) (S := []) s1).new np (o := .lst ((List.replicate 16 (0 : Int)).map V.int)) (x := (1, 3, k))
      have aD7 := aD.st F7 (by simp)
      have ag7 := ag.st F7 (by simp)
      have ar7 := fun j hj => (ar j hj).st F7 (by simp)
      have S7 := S6.step F7 (by simp) (by simp)
      have W7 := W6.st F7 (by simp)
      have ap : At (tgN τ6 p (1, 3, k)) (upd (upd H6 b1 (.lst [V.int 0])) p (.lst ((List.replicate 16 (0 : Int)).map V.int))) p _ _ := At.mk
      have F8 := (Stp.refl (τ := tgN τ6 p (1, 3, k)) (S := [1]) (H := upd (upd H6 b1 (.lst [V.int 0])) p (.lst ((List.replicate 16 (0 : Int)).map V.int)))).put (o := .lst (((List.range k).map fun j => V.ref (rr j)) ++ [V.ref p])) (mem1 aD7.2 rfl)
      refine ⟨_, aD7.1, sz (by rw [rng_len]; omega), tgN τ6 p (1, 3, k), upA rr k p, S7.step F8 (by simp) (by simp), W7.st F8 (by simp), ag7.put aD7.2 (by simp), ?_, fun j hj => ?_⟩
      · rw [← rng_app]
        exact .set aD7.2
      · by_cases e : j = k
        · subst e
          rw [upA_same]
          exact ap.put aD7.2 (by simp)
        · rw [upA_ne e]
          exact (ar7 j (by omega)).put aD7.2 (by simp)
    clear F6 aD ag6 S5 W5 ag
    rintro H6 ⟨τ6, rr, S6, W6, ag, aD, ar⟩
    rw [show (n : Int).toNat = n from Int.toNat_natCast n] at aD ar
    refine ⟨(by show 7 ≤ sizeLine; decide), fun m nm => ?_⟩
    have F7 := (Stp.refl (τ := τ6) (S := []) (H := H6)).new nm (o := .lst [V.ref g, V.ref D, V.int 0, V.int 1, V.int 0, V.int 0, V.int 0]) (x := (1, 0, 0))
    have J : LJ K a.C_Banks (tgN τ6 m (1, 0, 0)) (upd H6 m (.lst [V.ref g, V.ref D, V.int 0, V.int 1, V.int 0, V.int 0, V.int 0])) st sa ns x0 m n (.zero n) :=
      ⟨S6.step F7 (by simp) (by simp), W6.st F7 (by simp), ⟨g, D, rr, At.mk, ag.st F7 (by simp), aD.st F7 (by simp), fun k hk => (ar k hk).st F7 (by simp)⟩, Bk.zero_ok n3 n32, by show (-1 : Int) ≤ 1; decide, rfl⟩
    generalize upd H6 m (.lst [V.ref g, V.ref D, V.int 0, V.int 1, V.int 0, V.int 0, V.int 0]) = H7 at J ⊢
    generalize tgN τ6 m (1, 0, 0) = τ7 at J
    clear F7 S6 W6 ag aD ar nm
    generalize Bk.zero n = B at J
    refine ⟨_, rfl, _, rfl, τ7, 0, 1, x0, m, B, rfl, J.W, J.M, J.o, fun H8 s8 => ⟨_, rfl, iteF ?_⟩⟩
    have J := J.same s8
    refine ⟨_, rfl, τ7, st, sa, ns, 53, rfl, J.s, by decide, by decide, fun v H9 v0 v1 S9 F9 => ⟨_, _, rfl, rfl, _, rfl, by omega, by omega, ?_⟩⟩
    have J9 := J.step F9 S9
    refine for_range (lo := 0) (n := (8 + v).toNat) (fun _ σ H' => ∃ τ B, LJ K a.C_Banks τ H' st sa ns x0 m n B ∧ ∃ x, σ = [some (.ref sa), some (.ref st), some (.int n), some (.ref x0), some (.ref m), none, x, none]) ⟨τ7, B, J9, none, rfl⟩ ?_ ?_
    · clear J J9 F9 S9
      rintro k σ H10 hk ⟨τ, B, J, x, rfl⟩
      refine ⟨_, rfl, _, rfl, _, rfl, τ, st, sa, ns, 0, 1, x0, m, B, rfl, J.s, J.W, J.M, J.o, J.b, by decide, by decide, by decide, fun τ' H' B' s' w' m' o' b' nn F' => ⟨_, rfl, iteF ?_⟩⟩
      have J' : LJ K a.C_Banks τ' H' st sa ns x0 m n B' := ⟨s', w', m', o', b', nn.trans J.n⟩
      exact ⟨_, rfl, _, rfl, τ', 0, 1, x0, m, B', rfl, w', m', o', fun H'' s'' => ⟨_, rfl, iteF ⟨τ', B', J'.same s'', _, rfl⟩⟩⟩
    clear J J9 F9 S9
    rintro σ H10 ⟨τ, B, J, x, rfl⟩
    refine ⟨fun σ H' => ∃ τ B, LJ K a.C_Banks τ H' st sa ns x0 m n B ∧ ∃ x, σ = [some (.ref sa), some (.ref st), some (.int n), some (.ref x0), some (.ref m), none, x, none], ?_, ?_⟩
    · refine ⟨_, rfl, τ, st, sa, ns, 2, rfl, J.s, by decide, by decide, fun c H11 c0 c1 S11 F11 => ⟨rfl, _, rfl, ite3 (fun e => ?_) (fun e => ?_)⟩⟩
      · have J11 := J.step F11 S11
        have W11 := J11.W
        obtain ⟨dx, gl, wn, wr, Wx⟩ := W11
        refine ⟨_, rfl, x0, dx, _, rfl, Wx.ob.1, bkf_no_set_bar _ _ _ _ _ _ _, _, rfl, τ, 0, x0, B, -1, rfl, J11.W, J11.o, fun H12 W12 F12 => ?_⟩
        have S12 := J11.s.step F12 (by simp) (by simp)
        have M12 := J11.M.st F12 (by simp)
        obtain ⟨g, r, rr, Mx⟩ := M12
        refine ⟨_, rfl, _, rfl, _, _, _, _, rfl, rfl, Mx.m.1, rfl, ?_⟩
        have M13 := Mx.fld (B' := B.sb (-1)) rfl rfl rfl
        have F13 := (Stp.refl (τ := τ) (S := [1]) (H := H12)).put (o := .lst [.ref g, .ref r, .int (B.sb (-1)).c, .int (B.sb (-1)).bar, .int (B.sb (-1)).d, .int (B.sb (-1)).s, .int (B.sb (-1)).f]) (mem1 Mx.m.2 rfl)
        exact ⟨τ, B.sb (-1), ⟨S12.step F13 (by simp) (by simp), W12.st F13 (by simp), ⟨g, r, rr, M13⟩, J.o.sb _, by show (-1 : Int) ≤ -1; decide, J.n⟩, _, rfl⟩
      · exact ⟨τ, B, J.step F11 S11, _, rfl⟩
    clear J
    rintro σ H11 ⟨τ, B, J, x, rfl⟩
    refine ⟨_, rfl, _, rfl, by omega, by omega, ?_⟩
    refine for_range (lo := 0) (n := (n : Int).toNat) (fun _ σ H' => ∃ τ B, LJ K a.C_Banks τ H' st sa ns x0 m n B ∧ ∃ y z, σ = [some (.ref sa), some (.ref st), some (.int n), some (.ref x0), some (.ref m), y, x, z]) ⟨τ, B, J, _, _, rfl⟩ ?_ ?_
    · clear J
      rintro k σ H12 hk ⟨τ, B, J, y, z, rfl⟩
      refine ⟨_, rfl, _, rfl, τ, 0, 1, x0, m, B, rfl, J.W, J.M, J.o, fun H13 s13 => ⟨_, rfl, iteF ?_⟩⟩
      have J := J.same s13
      refine ⟨_, rfl, _, rfl, τ, 1, m, B, B.gd, -1, rfl, J.M, J.o, .inl ⟨rfl, rfl⟩, fun H14 M14 F14 => ?_⟩
      refine ⟨fun σ H' => BM τ 1 H' m B.dn ∧ Stp τ τ [1] H13 H' ∧ ∃ z, σ = [some (.ref sa), some (.ref st), some (.int n), some (.ref x0), some (.ref m), some (.int (0 + (k : Int))), x, z], ?_, ?_⟩
      · have M1' := M14
        obtain ⟨g, r, rr, Mx⟩ := M1'
        refine ⟨_, rfl, _, _, _, _, rfl, rfl, SqL.of Mx.m.1, rfl, _, _, rfl, rfl, _, rfl, ite3 (fun e1 => ?_) (fun e1 => ?_)⟩
        · have hb1 : B.gd.bar ≠ -1 := by have := of_decide_eq_true e1; omega
          refine ⟨_, _, rfl, ⟨by decide, by decide, by decide, by decide⟩, for_range (lo := 8) (n := 16) (fun j σ H' => j ≤ 16 ∧ BM τ 1 H' m (B.gd.clr j) ∧ Stp τ τ [1] H13 H' ∧ ∃ z, σ = [some (.ref sa), some (.ref st), some (.int n), some (.ref x0), some (.ref m), some (.int (0 + (k : Int))), x, z]) ⟨by decide, by rw [Bk.clr0]; exact M14, F14, _, rfl⟩ ?_ ?_⟩
          · rintro j σ H2 hj ⟨hj2, M2, F2, z, rfl⟩
            have e8 : (8 : Int) + (j : Int) = ((8 + j : Nat) : Int) := by omega
            rw [e8]
            refine ⟨_, rfl, _, rfl, τ, 1, m, B.gd.clr j, 8 + j, 0, rfl, M2, J.o.gd.clr hj2, by omega, fun H3 M3 F3 => ⟨by omega, ?_, F2.tr F3, _, rfl⟩⟩
            rw [← Bk.clr_wr J.o.gd hj]
            exact M3
          · rintro σ H2 ⟨hj2, M2, F2, z, rfl⟩
            refine ⟨?_, F2, _, rfl⟩
            unfold Bk.dn
            rw [if_neg hb1]
            exact M2
        · have hb1 : B.gd.bar = -1 := by have := of_decide_eq_false e1; have hb' : -1 ≤ B.gd.bar := J.b; omega
          refine ⟨?_, F14, _, rfl⟩
          unfold Bk.dn
          rw [if_pos hb1]
          exact M14
      · clear M14 F14
        rintro σ H15 ⟨M15, F15, z, rfl⟩
        have W15 := J.W.st F15 (by simp)
        have S15 := J.s.step F15 (by simp) (by simp)
        have W15' := W15
        obtain ⟨dx, gl, wn, wr, Wx⟩ := W15'
        refine ⟨_, rfl, x0, dx, _, rfl, Wx.ob.1, bkf_no_shift_down _ _ _ _ _ _ _, τ, 0, x0, B, rfl, W15, J.o, fun H16 W16 F16 => ?_⟩
        exact ⟨τ, B.dn, ⟨S15.step F16 (by simp) (by simp), W16, M15.st F16 (by simp), J.o.dn, by rw [dn_N.2]; exact J.b, dn_N.1.trans J.n⟩, _, _, rfl⟩
    clear J
    rintro σ H12 ⟨τ, B, J, y, z, rfl⟩
    -- no window barred
    have W11 := J.W
    obtain ⟨dx, gl, wn, wr, Wx⟩ := W11
    refine ⟨_, rfl, x0, dx, _, rfl, Wx.ob.1, bkf_no_set_bar _ _ _ _ _ _ _, _, rfl, τ, 0, x0, B, -1, rfl, J.W, J.o, fun H13 W13 F13 => ?_⟩
    have S13 := J.s.step F13 (by simp) (by simp)
    have M13 := J.M.st F13 (by simp)
    obtain ⟨g, r, rr, Mx⟩ := M13
    refine ⟨_, rfl, _, rfl, _, _, _, _, rfl, rfl, Mx.m.1, rfl, ?_⟩
    have M14 := Mx.fld (B' := B.sb (-1)) rfl rfl rfl
    have F14 := (Stp.refl (τ := τ) (S := [1]) (H := H13)).put (o := .lst [.ref g, .ref r, .int (B.sb (-1)).c, .int (B.sb (-1)).bar, .int (B.sb (-1)).d, .int (B.sb (-1)).s, .int (B.sb (-1)).f]) (mem1 Mx.m.2 rfl)
    have J14 : LJ K a.C_Banks τ _ st sa ns x0 m n (B.sb (-1)) := ⟨S13.step F14 (by simp) (by simp), W13.st F14 (by simp), ⟨g, r, rr, M14⟩, J.o.sb _, by show (-1 : Int) ≤ -1; decide, J.n⟩
    refine ⟨_, rfl, _, rfl, by omega, by omega, ?_⟩
    refine for_range (lo := 0) (n := (n : Int).toNat) (fun _ σ H' => ∃ τ B, LJ K a.C_Banks τ H' st sa ns x0 m n B ∧ B.bar = -1 ∧ ∃ y, σ = [some (.ref sa), some (.ref st), some (.int n), some (.ref x0), some (.ref m), y, x, z]) ⟨τ, B.sb (-1), J14, rfl, _, rfl⟩ ?_ ?_
    · clear J J14 F14 M14 Mx S13 W13 F13 Wx
      rintro k σ H15 hk ⟨τ, B, J, hbar, y, rfl⟩
      refine ⟨_, rfl, _, rfl, τ, 0, 1, x0, m, B, rfl, J.W, J.M, J.o, fun H16 s16 => ⟨_, rfl, iteF ?_⟩⟩
      have J := J.same s16
      refine ⟨_, rfl, _, rfl, τ, 1, m, B, B.gd, -1, rfl, J.M, J.o, .inl ⟨rfl, rfl⟩, fun H17 M17 F17 => ?_⟩
      have W17 := J.W.st F17 (by simp)
      have S17 := J.s.step F17 (by simp) (by simp)
      have W17' := W17
      obtain ⟨dx, gl, wn, wr, Wx⟩ := W17'
      refine ⟨_, rfl, x0, dx, _, rfl, Wx.ob.1, bkf_no_shift_down _ _ _ _ _ _ _, τ, 0, x0, B, rfl, W17, J.o, fun H18 W18 F18 => ?_⟩
      have ed : B.dn = B.gd := by unfold Bk.dn; rw [if_pos (show B.gd.bar = -1 from hbar)]
      rw [ed] at W18
      exact ⟨τ, B.gd, ⟨S17.step F18 (by simp) (by simp), W18, M17.st F18 (by simp), J.o.gd, J.b, J.n⟩, hbar, _, rfl⟩
    · rintro σ H15 ⟨τ, B, J, hbar, y, rfl⟩
      exact q _
end

theorem all_mk {l : PySem.W.OpenLaw} {w : World} {K : PySem.W.Frag} {h : Heap} {mg : Str → Option Value} {fa : Addr} (X : K.In h) (G : h.Ns mainGlobals mg) (hfa : mg "law" = some (.ref fa))
    {C_Banks : Addr} (aC_Banks : PySem.W.nsIn K mainGlobals "Banks" = some (some (.ref C_Banks)))
    (pg_Banks : PySem.W.plainGet K C_Banks Str.empty = true) (hd_Banks : PySem.W.hasDictIn K C_Banks = true) (po_Banks : PySem.W.plainOver K C_Banks = true) (sa_Banks : PySem.W.findIn K (.ref C_Banks) "__setattr__" = some (some (.builtin "object.__setattr__"))) (mk_Banks : PySem.W.makesIn K C_Banks = true) (kC_Banks : PySem.W.keepIn K (.ref C_Banks) = true)
    (n_Banks_depth : PySem.W.findIn K (.ref C_Banks) "depth" = some none)
    (n_Banks_spills : PySem.W.findIn K (.ref C_Banks) "spills" = some none)
    (n_Banks_fills : PySem.W.findIn K (.ref C_Banks) "fills" = some none)
    (n_Banks_current : PySem.W.findIn K (.ref C_Banks) "current" = some none)
    (n_Banks_barred : PySem.W.findIn K (.ref C_Banks) "barred" = some none)
    (n_Banks__globals : PySem.W.findIn K (.ref C_Banks) "_globals" = some none)
    (n_Banks__windows : PySem.W.findIn K (.ref C_Banks) "_windows" = some none)
    {f_Banks___init__ : Addr} {oc_Banks___init__ : Value} {od_Banks___init__ an_Banks___init__ : Option Addr} {sl_Banks___init__ : Array (Option Value)} {kV_Banks___init__ dc_Banks___init__ pm_Banks___init__ cd_Banks___init__ ct_Banks___init__ : Value}
    (a_Banks___init__ : PySem.W.findIn K (.ref C_Banks) "__init__" = some (some (.ref f_Banks___init__)))
    (i_Banks___init__ : PySem.W.isFn K (.ref f_Banks___init__) = true)
    (l_Banks___init__ : K.lookup f_Banks___init__ = some ⟨oc_Banks___init__, od_Banks___init__, .func (PySem.W.fnOf "__init__" "Banks.__init__" (defArgs s_Banks___init__) (defBody s_Banks___init__) (defScope s_Banks___init__) .none kV_Banks___init__ dc_Banks___init__ pm_Banks___init__ an_Banks___init__ cd_Banks___init__ ct_Banks___init__), sl_Banks___init__⟩)
    (c_Banks___init__ : PySem.W.codeIn K cd_Banks___init__ "Banks.__init__" = true)
    (k_Banks___init__ : PySem.W.keepIn K (.ref f_Banks___init__) = true)
    {f_Banks_read : Addr} {oc_Banks_read : Value} {od_Banks_read an_Banks_read : Option Addr} {sl_Banks_read : Array (Option Value)} {kV_Banks_read dc_Banks_read pm_Banks_read cd_Banks_read ct_Banks_read : Value}
    (a_Banks_read : PySem.W.findIn K (.ref C_Banks) "read" = some (some (.ref f_Banks_read)))
    (i_Banks_read : PySem.W.isFn K (.ref f_Banks_read) = true)
    (l_Banks_read : K.lookup f_Banks_read = some ⟨oc_Banks_read, od_Banks_read, .func (PySem.W.fnOf "read" "Banks.read" (defArgs s_Banks_read) (defBody s_Banks_read) (defScope s_Banks_read) .none kV_Banks_read dc_Banks_read pm_Banks_read an_Banks_read cd_Banks_read ct_Banks_read), sl_Banks_read⟩)
    (c_Banks_read : PySem.W.codeIn K cd_Banks_read "Banks.read" = true)
    (k_Banks_read : PySem.W.keepIn K (.ref f_Banks_read) = true)
    {f_Banks_write : Addr} {oc_Banks_write : Value} {od_Banks_write an_Banks_write : Option Addr} {sl_Banks_write : Array (Option Value)} {kV_Banks_write dc_Banks_write pm_Banks_write cd_Banks_write ct_Banks_write : Value}
    (a_Banks_write : PySem.W.findIn K (.ref C_Banks) "write" = some (some (.ref f_Banks_write)))
    (i_Banks_write : PySem.W.isFn K (.ref f_Banks_write) = true)
    (l_Banks_write : K.lookup f_Banks_write = some ⟨oc_Banks_write, od_Banks_write, .func (PySem.W.fnOf "write" "Banks.write" (defArgs s_Banks_write) (defBody s_Banks_write) (defScope s_Banks_write) .none kV_Banks_write dc_Banks_write pm_Banks_write an_Banks_write cd_Banks_write ct_Banks_write), sl_Banks_write⟩)
    (c_Banks_write : PySem.W.codeIn K cd_Banks_write "Banks.write" = true)
    (k_Banks_write : PySem.W.keepIn K (.ref f_Banks_write) = true)
    {f_Banks_shift_down : Addr} {oc_Banks_shift_down : Value} {od_Banks_shift_down an_Banks_shift_down : Option Addr} {sl_Banks_shift_down : Array (Option Value)} {kV_Banks_shift_down dc_Banks_shift_down pm_Banks_shift_down cd_Banks_shift_down ct_Banks_shift_down : Value}
    (a_Banks_shift_down : PySem.W.findIn K (.ref C_Banks) "shift_down" = some (some (.ref f_Banks_shift_down)))
    (i_Banks_shift_down : PySem.W.isFn K (.ref f_Banks_shift_down) = true)
    (l_Banks_shift_down : K.lookup f_Banks_shift_down = some ⟨oc_Banks_shift_down, od_Banks_shift_down, .func (PySem.W.fnOf "shift_down" "Banks.shift_down" (defArgs s_Banks_shift_down) (defBody s_Banks_shift_down) (defScope s_Banks_shift_down) .none kV_Banks_shift_down dc_Banks_shift_down pm_Banks_shift_down an_Banks_shift_down cd_Banks_shift_down ct_Banks_shift_down), sl_Banks_shift_down⟩)
    (c_Banks_shift_down : PySem.W.codeIn K cd_Banks_shift_down "Banks.shift_down" = true)
    (k_Banks_shift_down : PySem.W.keepIn K (.ref f_Banks_shift_down) = true)
    {f_Banks_shift_up : Addr} {oc_Banks_shift_up : Value} {od_Banks_shift_up an_Banks_shift_up : Option Addr} {sl_Banks_shift_up : Array (Option Value)} {kV_Banks_shift_up dc_Banks_shift_up pm_Banks_shift_up cd_Banks_shift_up ct_Banks_shift_up : Value}
    (a_Banks_shift_up : PySem.W.findIn K (.ref C_Banks) "shift_up" = some (some (.ref f_Banks_shift_up)))
    (i_Banks_shift_up : PySem.W.isFn K (.ref f_Banks_shift_up) = true)
    (l_Banks_shift_up : K.lookup f_Banks_shift_up = some ⟨oc_Banks_shift_up, od_Banks_shift_up, .func (PySem.W.fnOf "shift_up" "Banks.shift_up" (defArgs s_Banks_shift_up) (defBody s_Banks_shift_up) (defScope s_Banks_shift_up) .none kV_Banks_shift_up dc_Banks_shift_up pm_Banks_shift_up an_Banks_shift_up cd_Banks_shift_up ct_Banks_shift_up), sl_Banks_shift_up⟩)
    (c_Banks_shift_up : PySem.W.codeIn K cd_Banks_shift_up "Banks.shift_up" = true)
    (k_Banks_shift_up : PySem.W.keepIn K (.ref f_Banks_shift_up) = true)
    {f_Banks_blocked_down : Addr} {oc_Banks_blocked_down : Value} {od_Banks_blocked_down an_Banks_blocked_down : Option Addr} {sl_Banks_blocked_down : Array (Option Value)} {kV_Banks_blocked_down dc_Banks_blocked_down pm_Banks_blocked_down cd_Banks_blocked_down ct_Banks_blocked_down : Value}
    (a_Banks_blocked_down : PySem.W.findIn K (.ref C_Banks) "blocked_down" = some (some (.ref f_Banks_blocked_down)))
    (i_Banks_blocked_down : PySem.W.isFn K (.ref f_Banks_blocked_down) = true)
    (l_Banks_blocked_down : K.lookup f_Banks_blocked_down = some ⟨oc_Banks_blocked_down, od_Banks_blocked_down, .func (PySem.W.fnOf "blocked_down" "Banks.blocked_down" (defArgs s_Banks_blocked_down) (defBody s_Banks_blocked_down) (defScope s_Banks_blocked_down) .none kV_Banks_blocked_down dc_Banks_blocked_down pm_Banks_blocked_down an_Banks_blocked_down cd_Banks_blocked_down ct_Banks_blocked_down), sl_Banks_blocked_down⟩)
    (c_Banks_blocked_down : PySem.W.codeIn K cd_Banks_blocked_down "Banks.blocked_down" = true)
    (k_Banks_blocked_down : PySem.W.keepIn K (.ref f_Banks_blocked_down) = true)
    {f_Banks_blocked_up : Addr} {oc_Banks_blocked_up : Value} {od_Banks_blocked_up an_Banks_blocked_up : Option Addr} {sl_Banks_blocked_up : Array (Option Value)} {kV_Banks_blocked_up dc_Banks_blocked_up pm_Banks_blocked_up cd_Banks_blocked_up ct_Banks_blocked_up : Value}
    (a_Banks_blocked_up : PySem.W.findIn K (.ref C_Banks) "blocked_up" = some (some (.ref f_Banks_blocked_up)))
    (i_Banks_blocked_up : PySem.W.isFn K (.ref f_Banks_blocked_up) = true)
    (l_Banks_blocked_up : K.lookup f_Banks_blocked_up = some ⟨oc_Banks_blocked_up, od_Banks_blocked_up, .func (PySem.W.fnOf "blocked_up" "Banks.blocked_up" (defArgs s_Banks_blocked_up) (defBody s_Banks_blocked_up) (defScope s_Banks_blocked_up) .none kV_Banks_blocked_up dc_Banks_blocked_up pm_Banks_blocked_up an_Banks_blocked_up cd_Banks_blocked_up ct_Banks_blocked_up), sl_Banks_blocked_up⟩)
    (c_Banks_blocked_up : PySem.W.codeIn K cd_Banks_blocked_up "Banks.blocked_up" = true)
    (k_Banks_blocked_up : PySem.W.keepIn K (.ref f_Banks_blocked_up) = true)
    {f_Banks_set_bar : Addr} {oc_Banks_set_bar : Value} {od_Banks_set_bar an_Banks_set_bar : Option Addr} {sl_Banks_set_bar : Array (Option Value)} {kV_Banks_set_bar dc_Banks_set_bar pm_Banks_set_bar cd_Banks_set_bar ct_Banks_set_bar : Value}
    (a_Banks_set_bar : PySem.W.findIn K (.ref C_Banks) "set_bar" = some (some (.ref f_Banks_set_bar)))
    (i_Banks_set_bar : PySem.W.isFn K (.ref f_Banks_set_bar) = true)
    (l_Banks_set_bar : K.lookup f_Banks_set_bar = some ⟨oc_Banks_set_bar, od_Banks_set_bar, .func (PySem.W.fnOf "set_bar" "Banks.set_bar" (defArgs s_Banks_set_bar) (defBody s_Banks_set_bar) (defScope s_Banks_set_bar) .none kV_Banks_set_bar dc_Banks_set_bar pm_Banks_set_bar an_Banks_set_bar cd_Banks_set_bar ct_Banks_set_bar), sl_Banks_set_bar⟩)
    (c_Banks_set_bar : PySem.W.codeIn K cd_Banks_set_bar "Banks.set_bar" = true)
    (k_Banks_set_bar : PySem.W.keepIn K (.ref f_Banks_set_bar) = true)
    {f_Banks_trap_down : Addr} {oc_Banks_trap_down : Value} {od_Banks_trap_down an_Banks_trap_down : Option Addr} {sl_Banks_trap_down : Array (Option Value)} {kV_Banks_trap_down dc_Banks_trap_down pm_Banks_trap_down cd_Banks_trap_down ct_Banks_trap_down : Value}
    (a_Banks_trap_down : PySem.W.findIn K (.ref C_Banks) "trap_down" = some (some (.ref f_Banks_trap_down)))
    (i_Banks_trap_down : PySem.W.isFn K (.ref f_Banks_trap_down) = true)
    (l_Banks_trap_down : K.lookup f_Banks_trap_down = some ⟨oc_Banks_trap_down, od_Banks_trap_down, .func (PySem.W.fnOf "trap_down" "Banks.trap_down" (defArgs s_Banks_trap_down) (defBody s_Banks_trap_down) (defScope s_Banks_trap_down) .none kV_Banks_trap_down dc_Banks_trap_down pm_Banks_trap_down an_Banks_trap_down cd_Banks_trap_down ct_Banks_trap_down), sl_Banks_trap_down⟩)
    (c_Banks_trap_down : PySem.W.codeIn K cd_Banks_trap_down "Banks.trap_down" = true)
    (k_Banks_trap_down : PySem.W.keepIn K (.ref f_Banks_trap_down) = true)
    {f_Banks_trap_up : Addr} {oc_Banks_trap_up : Value} {od_Banks_trap_up an_Banks_trap_up : Option Addr} {sl_Banks_trap_up : Array (Option Value)} {kV_Banks_trap_up dc_Banks_trap_up pm_Banks_trap_up cd_Banks_trap_up ct_Banks_trap_up : Value}
    (a_Banks_trap_up : PySem.W.findIn K (.ref C_Banks) "trap_up" = some (some (.ref f_Banks_trap_up)))
    (i_Banks_trap_up : PySem.W.isFn K (.ref f_Banks_trap_up) = true)
    (l_Banks_trap_up : K.lookup f_Banks_trap_up = some ⟨oc_Banks_trap_up, od_Banks_trap_up, .func (PySem.W.fnOf "trap_up" "Banks.trap_up" (defArgs s_Banks_trap_up) (defBody s_Banks_trap_up) (defScope s_Banks_trap_up) .none kV_Banks_trap_up dc_Banks_trap_up pm_Banks_trap_up an_Banks_trap_up cd_Banks_trap_up ct_Banks_trap_up), sl_Banks_trap_up⟩)
    (c_Banks_trap_up : PySem.W.codeIn K cd_Banks_trap_up "Banks.trap_up" = true)
    (k_Banks_trap_up : PySem.W.keepIn K (.ref f_Banks_trap_up) = true)
    {f_Banks_leave_trap : Addr} {oc_Banks_leave_trap : Value} {od_Banks_leave_trap an_Banks_leave_trap : Option Addr} {sl_Banks_leave_trap : Array (Option Value)} {kV_Banks_leave_trap dc_Banks_leave_trap pm_Banks_leave_trap cd_Banks_leave_trap ct_Banks_leave_trap : Value}
    (a_Banks_leave_trap : PySem.W.findIn K (.ref C_Banks) "leave_trap" = some (some (.ref f_Banks_leave_trap)))
    (i_Banks_leave_trap : PySem.W.isFn K (.ref f_Banks_leave_trap) = true)
    (l_Banks_leave_trap : K.lookup f_Banks_leave_trap = some ⟨oc_Banks_leave_trap, od_Banks_leave_trap, .func (PySem.W.fnOf "leave_trap" "Banks.leave_trap" (defArgs s_Banks_leave_trap) (defBody s_Banks_leave_trap) (defScope s_Banks_leave_trap) .none kV_Banks_leave_trap dc_Banks_leave_trap pm_Banks_leave_trap an_Banks_leave_trap cd_Banks_leave_trap ct_Banks_leave_trap), sl_Banks_leave_trap⟩)
    (c_Banks_leave_trap : PySem.W.codeIn K cd_Banks_leave_trap "Banks.leave_trap" = true)
    (k_Banks_leave_trap : PySem.W.keepIn K (.ref f_Banks_leave_trap) = true)
    {f_Banks__begin_trap : Addr} {oc_Banks__begin_trap : Value} {od_Banks__begin_trap an_Banks__begin_trap : Option Addr} {sl_Banks__begin_trap : Array (Option Value)} {kV_Banks__begin_trap dc_Banks__begin_trap pm_Banks__begin_trap cd_Banks__begin_trap ct_Banks__begin_trap : Value}
    (a_Banks__begin_trap : PySem.W.findIn K (.ref C_Banks) "_begin_trap" = some (some (.ref f_Banks__begin_trap)))
    (i_Banks__begin_trap : PySem.W.isFn K (.ref f_Banks__begin_trap) = true)
    (l_Banks__begin_trap : K.lookup f_Banks__begin_trap = some ⟨oc_Banks__begin_trap, od_Banks__begin_trap, .func (PySem.W.fnOf "_begin_trap" "Banks._begin_trap" (defArgs s_Banks__begin_trap) (defBody s_Banks__begin_trap) (defScope s_Banks__begin_trap) .none kV_Banks__begin_trap dc_Banks__begin_trap pm_Banks__begin_trap an_Banks__begin_trap cd_Banks__begin_trap ct_Banks__begin_trap), sl_Banks__begin_trap⟩)
    (c_Banks__begin_trap : PySem.W.codeIn K cd_Banks__begin_trap "Banks._begin_trap" = true)
    (k_Banks__begin_trap : PySem.W.keepIn K (.ref f_Banks__begin_trap) = true)
    {f_Banks__go_down : Addr} {oc_Banks__go_down : Value} {od_Banks__go_down an_Banks__go_down : Option Addr} {sl_Banks__go_down : Array (Option Value)} {kV_Banks__go_down dc_Banks__go_down pm_Banks__go_down cd_Banks__go_down ct_Banks__go_down : Value}
    (a_Banks__go_down : PySem.W.findIn K (.ref C_Banks) "_go_down" = some (some (.ref f_Banks__go_down)))
    (i_Banks__go_down : PySem.W.isFn K (.ref f_Banks__go_down) = true)
    (l_Banks__go_down : K.lookup f_Banks__go_down = some ⟨oc_Banks__go_down, od_Banks__go_down, .func (PySem.W.fnOf "_go_down" "Banks._go_down" (defArgs s_Banks__go_down) (defBody s_Banks__go_down) (defScope s_Banks__go_down) .none kV_Banks__go_down dc_Banks__go_down pm_Banks__go_down an_Banks__go_down cd_Banks__go_down ct_Banks__go_down), sl_Banks__go_down⟩)
    (c_Banks__go_down : PySem.W.codeIn K cd_Banks__go_down "Banks._go_down" = true)
    (k_Banks__go_down : PySem.W.keepIn K (.ref f_Banks__go_down) = true)
    {f_Banks__window_below : Addr} {oc_Banks__window_below : Value} {od_Banks__window_below an_Banks__window_below : Option Addr} {sl_Banks__window_below : Array (Option Value)} {kV_Banks__window_below dc_Banks__window_below pm_Banks__window_below cd_Banks__window_below ct_Banks__window_below : Value}
    (a_Banks__window_below : PySem.W.findIn K (.ref C_Banks) "_window_below" = some (some (.ref f_Banks__window_below)))
    (i_Banks__window_below : PySem.W.isFn K (.ref f_Banks__window_below) = true)
    (l_Banks__window_below : K.lookup f_Banks__window_below = some ⟨oc_Banks__window_below, od_Banks__window_below, .func (PySem.W.fnOf "_window_below" "Banks._window_below" (defArgs s_Banks__window_below) (defBody s_Banks__window_below) (defScope s_Banks__window_below) .none kV_Banks__window_below dc_Banks__window_below pm_Banks__window_below an_Banks__window_below cd_Banks__window_below ct_Banks__window_below), sl_Banks__window_below⟩)
    (c_Banks__window_below : PySem.W.codeIn K cd_Banks__window_below "Banks._window_below" = true)
    (k_Banks__window_below : PySem.W.keepIn K (.ref f_Banks__window_below) = true)
    {f_Banks__window_above : Addr} {oc_Banks__window_above : Value} {od_Banks__window_above an_Banks__window_above : Option Addr} {sl_Banks__window_above : Array (Option Value)} {kV_Banks__window_above dc_Banks__window_above pm_Banks__window_above cd_Banks__window_above ct_Banks__window_above : Value}
    (a_Banks__window_above : PySem.W.findIn K (.ref C_Banks) "_window_above" = some (some (.ref f_Banks__window_above)))
    (i_Banks__window_above : PySem.W.isFn K (.ref f_Banks__window_above) = true)
    (l_Banks__window_above : K.lookup f_Banks__window_above = some ⟨oc_Banks__window_above, od_Banks__window_above, .func (PySem.W.fnOf "_window_above" "Banks._window_above" (defArgs s_Banks__window_above) (defBody s_Banks__window_above) (defScope s_Banks__window_above) .none kV_Banks__window_above dc_Banks__window_above pm_Banks__window_above an_Banks__window_above cd_Banks__window_above ct_Banks__window_above), sl_Banks__window_above⟩)
    (c_Banks__window_above : PySem.W.codeIn K cd_Banks__window_above "Banks._window_above" = true)
    (k_Banks__window_above : PySem.W.keepIn K (.ref f_Banks__window_above) = true)
    {f_law_pick : Addr} {oc_law_pick : Value} {od_law_pick an_law_pick : Option Addr} {sl_law_pick : Array (Option Value)} {kV_law_pick dc_law_pick pm_law_pick cd_law_pick ct_law_pick : Value}
    (a_law_pick : PySem.W.nsIn K mainGlobals "_law_pick" = some (some (.ref f_law_pick)))
    (l_law_pick : K.lookup f_law_pick = some ⟨oc_law_pick, od_law_pick, .func (PySem.W.fnOf "_law_pick" "_law_pick" (defArgs s_law_pick) (defBody s_law_pick) (defScope s_law_pick) .none kV_law_pick dc_law_pick pm_law_pick an_law_pick cd_law_pick ct_law_pick), sl_law_pick⟩)
    (c_law_pick : PySem.W.codeIn K cd_law_pick "_law_pick" = true)
    (k_law_pick : PySem.W.keepIn K (.ref f_law_pick) = true)
    {f_law_is_integer : Addr} {oc_law_is_integer : Value} {od_law_is_integer an_law_is_integer : Option Addr} {sl_law_is_integer : Array (Option Value)} {kV_law_is_integer dc_law_is_integer pm_law_is_integer cd_law_is_integer ct_law_is_integer : Value}
    (a_law_is_integer : PySem.W.nsIn K mainGlobals "_law_is_integer" = some (some (.ref f_law_is_integer)))
    (l_law_is_integer : K.lookup f_law_is_integer = some ⟨oc_law_is_integer, od_law_is_integer, .func (PySem.W.fnOf "_law_is_integer" "_law_is_integer" (defArgs s_law_is_integer) (defBody s_law_is_integer) (defScope s_law_is_integer) .none kV_law_is_integer dc_law_is_integer pm_law_is_integer an_law_is_integer cd_law_is_integer ct_law_is_integer), sl_law_is_integer⟩)
    (c_law_is_integer : PySem.W.codeIn K cd_law_is_integer "_law_is_integer" = true)
    (k_law_is_integer : PySem.W.keepIn K (.ref f_law_is_integer) = true)
    {f_law_word : Addr} {oc_law_word : Value} {od_law_word an_law_word : Option Addr} {sl_law_word : Array (Option Value)} {kV_law_word dc_law_word pm_law_word cd_law_word ct_law_word : Value}
    (a_law_word : PySem.W.nsIn K mainGlobals "_law_word" = some (some (.ref f_law_word)))
    (l_law_word : K.lookup f_law_word = some ⟨oc_law_word, od_law_word, .func (PySem.W.fnOf "_law_word" "_law_word" (defArgs s_law_word) (defBody s_law_word) (defScope s_law_word) .none kV_law_word dc_law_word pm_law_word an_law_word cd_law_word ct_law_word), sl_law_word⟩)
    (c_law_word : PySem.W.codeIn K cd_law_word "_law_word" = true)
    (k_law_word : PySem.W.keepIn K (.ref f_law_word) = true)
    {f_law_find : Addr} {oc_law_find : Value} {od_law_find an_law_find : Option Addr} {sl_law_find : Array (Option Value)} {kV_law_find dc_law_find pm_law_find cd_law_find ct_law_find : Value}
    (a_law_find : PySem.W.nsIn K mainGlobals "_law_find" = some (some (.ref f_law_find)))
    (l_law_find : K.lookup f_law_find = some ⟨oc_law_find, od_law_find, .func (PySem.W.fnOf "_law_find" "_law_find" (defArgs s_law_find) (defBody s_law_find) (defScope s_law_find) .none kV_law_find dc_law_find pm_law_find an_law_find cd_law_find ct_law_find), sl_law_find⟩)
    (c_law_find : PySem.W.codeIn K cd_law_find "_law_find" = true)
    (k_law_find : PySem.W.keepIn K (.ref f_law_find) = true)
    {f_law_get : Addr} {oc_law_get : Value} {od_law_get an_law_get : Option Addr} {sl_law_get : Array (Option Value)} {kV_law_get dc_law_get pm_law_get cd_law_get ct_law_get : Value}
    (a_law_get : PySem.W.nsIn K mainGlobals "_law_get" = some (some (.ref f_law_get)))
    (l_law_get : K.lookup f_law_get = some ⟨oc_law_get, od_law_get, .func (PySem.W.fnOf "_law_get" "_law_get" (defArgs s_law_get) (defBody s_law_get) (defScope s_law_get) .none kV_law_get dc_law_get pm_law_get an_law_get cd_law_get ct_law_get), sl_law_get⟩)
    (c_law_get : PySem.W.codeIn K cd_law_get "_law_get" = true)
    (k_law_get : PySem.W.keepIn K (.ref f_law_get) = true)
    {f_law_set : Addr} {oc_law_set : Value} {od_law_set an_law_set : Option Addr} {sl_law_set : Array (Option Value)} {kV_law_set dc_law_set pm_law_set cd_law_set ct_law_set : Value}
    (a_law_set : PySem.W.nsIn K mainGlobals "_law_set" = some (some (.ref f_law_set)))
    (l_law_set : K.lookup f_law_set = some ⟨oc_law_set, od_law_set, .func (PySem.W.fnOf "_law_set" "_law_set" (defArgs s_law_set) (defBody s_law_set) (defScope s_law_set) .none kV_law_set dc_law_set pm_law_set an_law_set cd_law_set ct_law_set), sl_law_set⟩)
    (c_law_set : PySem.W.codeIn K cd_law_set "_law_set" = true)
    (k_law_set : PySem.W.keepIn K (.ref f_law_set) = true)
    {f_law_move : Addr} {oc_law_move : Value} {od_law_move an_law_move : Option Addr} {sl_law_move : Array (Option Value)} {kV_law_move dc_law_move pm_law_move cd_law_move ct_law_move : Value}
    (a_law_move : PySem.W.nsIn K mainGlobals "_law_move" = some (some (.ref f_law_move)))
    (l_law_move : K.lookup f_law_move = some ⟨oc_law_move, od_law_move, .func (PySem.W.fnOf "_law_move" "_law_move" (defArgs s_law_move) (defBody s_law_move) (defScope s_law_move) .none kV_law_move dc_law_move pm_law_move an_law_move cd_law_move ct_law_move), sl_law_move⟩)
    (c_law_move : PySem.W.codeIn K cd_law_move "_law_move" = true)
    (k_law_move : PySem.W.keepIn K (.ref f_law_move) = true)
    {f_law_counts : Addr} {oc_law_counts : Value} {od_law_counts an_law_counts : Option Addr} {sl_law_counts : Array (Option Value)} {kV_law_counts dc_law_counts pm_law_counts cd_law_counts ct_law_counts : Value}
    (a_law_counts : PySem.W.nsIn K mainGlobals "_law_counts" = some (some (.ref f_law_counts)))
    (l_law_counts : K.lookup f_law_counts = some ⟨oc_law_counts, od_law_counts, .func (PySem.W.fnOf "_law_counts" "_law_counts" (defArgs s_law_counts) (defBody s_law_counts) (defScope s_law_counts) .none kV_law_counts dc_law_counts pm_law_counts an_law_counts cd_law_counts ct_law_counts), sl_law_counts⟩)
    (c_law_counts : PySem.W.codeIn K cd_law_counts "_law_counts" = true)
    (k_law_counts : PySem.W.keepIn K (.ref f_law_counts) = true)
    {f_law_reads : Addr} {oc_law_reads : Value} {od_law_reads an_law_reads : Option Addr} {sl_law_reads : Array (Option Value)} {kV_law_reads dc_law_reads pm_law_reads cd_law_reads ct_law_reads : Value}
    (a_law_reads : PySem.W.nsIn K mainGlobals "_law_reads" = some (some (.ref f_law_reads)))
    (l_law_reads : K.lookup f_law_reads = some ⟨oc_law_reads, od_law_reads, .func (PySem.W.fnOf "_law_reads" "_law_reads" (defArgs s_law_reads) (defBody s_law_reads) (defScope s_law_reads) .none kV_law_reads dc_law_reads pm_law_reads an_law_reads cd_law_reads ct_law_reads), sl_law_reads⟩)
    (c_law_reads : PySem.W.codeIn K cd_law_reads "_law_reads" = true)
    (k_law_reads : PySem.W.keepIn K (.ref f_law_reads) = true)
    {f_law_shift : Addr} {oc_law_shift : Value} {od_law_shift an_law_shift : Option Addr} {sl_law_shift : Array (Option Value)} {kV_law_shift dc_law_shift pm_law_shift cd_law_shift ct_law_shift : Value}
    (a_law_shift : PySem.W.nsIn K mainGlobals "_law_shift" = some (some (.ref f_law_shift)))
    (l_law_shift : K.lookup f_law_shift = some ⟨oc_law_shift, od_law_shift, .func (PySem.W.fnOf "_law_shift" "_law_shift" (defArgs s_law_shift) (defBody s_law_shift) (defScope s_law_shift) .none kV_law_shift dc_law_shift pm_law_shift an_law_shift cd_law_shift ct_law_shift), sl_law_shift⟩)
    (c_law_shift : PySem.W.codeIn K cd_law_shift "_law_shift" = true)
    (k_law_shift : PySem.W.keepIn K (.ref f_law_shift) = true)
    {f_law_deed : Addr} {oc_law_deed : Value} {od_law_deed an_law_deed : Option Addr} {sl_law_deed : Array (Option Value)} {kV_law_deed dc_law_deed pm_law_deed cd_law_deed ct_law_deed : Value}
    (a_law_deed : PySem.W.nsIn K mainGlobals "_law_deed" = some (some (.ref f_law_deed)))
    (l_law_deed : K.lookup f_law_deed = some ⟨oc_law_deed, od_law_deed, .func (PySem.W.fnOf "_law_deed" "_law_deed" (defArgs s_law_deed) (defBody s_law_deed) (defScope s_law_deed) .none kV_law_deed dc_law_deed pm_law_deed an_law_deed cd_law_deed ct_law_deed), sl_law_deed⟩)
    (c_law_deed : PySem.W.codeIn K cd_law_deed "_law_deed" = true)
    (k_law_deed : PySem.W.keepIn K (.ref f_law_deed) = true)
    {f_law : Addr} {oc_law : Value} {od_law an_law : Option Addr} {sl_law : Array (Option Value)} {kV_law dc_law pm_law cd_law ct_law : Value}
    (a_law : PySem.W.nsIn K mainGlobals "law" = some (some (.ref f_law)))
    (l_law : K.lookup f_law = some ⟨oc_law, od_law, .func (PySem.W.fnOf "law" "law" (defArgs s_law) (defBody s_law) (defScope s_law) .none kV_law dc_law pm_law an_law cd_law ct_law), sl_law⟩)
    (c_law : PySem.W.codeIn K cd_law "law" = true)
    (k_law : PySem.W.keepIn K (.ref f_law) = true)
    (z_bool : PySem.W.nsIn K mainGlobals "bool" = some none)
    (z_int : PySem.W.nsIn K mainGlobals "int" = some none)
    (z_isinstance : PySem.W.nsIn K mainGlobals "isinstance" = some none)
    (z_len : PySem.W.nsIn K mainGlobals "len" = some none)
    (z_range : PySem.W.nsIn K mainGlobals "range" = some none) :
    ∃ fd : FuncData, (∀ (s : Shared) (v : Value), BindsTo s fd ⟨[v], []⟩ [("script", v)]) ∧ ∀ base : Heap, K.In base → base.Ns mainGlobals mg → FnOk l.prog w K mg base CX0 9 fa fd ["script"] (spLaw K) := by
  have e := hfa.symm.trans (PySem.W.mg_of X G a_law)
  cases e
  let a : Ad := { f_Banks___init__ := f_Banks___init__, d_Banks___init__ := PySem.W.fnOf "__init__" "Banks.__init__" (defArgs s_Banks___init__) (defBody s_Banks___init__) (defScope s_Banks___init__) .none kV_Banks___init__ dc_Banks___init__ pm_Banks___init__ an_Banks___init__ cd_Banks___init__ ct_Banks___init__, f_Banks_read := f_Banks_read, d_Banks_read := PySem.W.fnOf "read" "Banks.read" (defArgs s_Banks_read) (defBody s_Banks_read) (defScope s_Banks_read) .none kV_Banks_read dc_Banks_read pm_Banks_read an_Banks_read cd_Banks_read ct_Banks_read, f_Banks_write := f_Banks_write, d_Banks_write := PySem.W.fnOf "write" "Banks.write" (defArgs s_Banks_write) (defBody s_Banks_write) (defScope s_Banks_write) .none kV_Banks_write dc_Banks_write pm_Banks_write an_Banks_write cd_Banks_write ct_Banks_write, f_Banks_shift_down := f_Banks_shift_down, d_Banks_shift_down := PySem.W.fnOf "shift_down" "Banks.shift_down" (defArgs s_Banks_shift_down) (defBody s_Banks_shift_down) (defScope s_Banks_shift_down) .none kV_Banks_shift_down dc_Banks_shift_down pm_Banks_shift_down an_Banks_shift_down cd_Banks_shift_down ct_Banks_shift_down, f_Banks_shift_up := f_Banks_shift_up, d_Banks_shift_up := PySem.W.fnOf "shift_up" "Banks.shift_up" (defArgs s_Banks_shift_up) (defBody s_Banks_shift_up) (defScope s_Banks_shift_up) .none kV_Banks_shift_up dc_Banks_shift_up pm_Banks_shift_up an_Banks_shift_up cd_Banks_shift_up ct_Banks_shift_up, f_Banks_blocked_down := f_Banks_blocked_down, d_Banks_blocked_down := PySem.W.fnOf "blocked_down" "Banks.blocked_down" (defArgs s_Banks_blocked_down) (defBody s_Banks_blocked_down) (defScope s_Banks_blocked_down) .none kV_Banks_blocked_down dc_Banks_blocked_down pm_Banks_blocked_down an_Banks_blocked_down cd_Banks_blocked_down ct_Banks_blocked_down, f_Banks_blocked_up := f_Banks_blocked_up, d_Banks_blocked_up := PySem.W.fnOf "blocked_up" "Banks.blocked_up" (defArgs s_Banks_blocked_up) (defBody s_Banks_blocked_up) (defScope s_Banks_blocked_up) .none kV_Banks_blocked_up dc_Banks_blocked_up pm_Banks_blocked_up an_Banks_blocked_up cd_Banks_blocked_up ct_Banks_blocked_up, f_Banks_set_bar := f_Banks_set_bar, d_Banks_set_bar := PySem.W.fnOf "set_bar" "Banks.set_bar" (defArgs s_Banks_set_bar) (defBody s_Banks_set_bar) (defScope s_Banks_set_bar) .none kV_Banks_set_bar dc_Banks_set_bar pm_Banks_set_bar an_Banks_set_bar cd_Banks_set_bar ct_Banks_set_bar, f_Banks_trap_down := f_Banks_trap_down, d_Banks_trap_down := PySem.W.fnOf "trap_down" "Banks.trap_down" (defArgs s_Banks_trap_down) (defBody s_Banks_trap_down) (defScope s_Banks_trap_down) .none kV_Banks_trap_down dc_Banks_trap_down pm_Banks_trap_down an_Banks_trap_down cd_Banks_trap_down ct_Banks_trap_down, f_Banks_trap_up := f_Banks_trap_up, d_Banks_trap_up := PySem.W.fnOf "trap_up" "Banks.trap_up" (defArgs s_Banks_trap_up) (defBody s_Banks_trap_up) (defScope s_Banks_trap_up) .none kV_Banks_trap_up dc_Banks_trap_up pm_Banks_trap_up an_Banks_trap_up cd_Banks_trap_up ct_Banks_trap_up, f_Banks_leave_trap := f_Banks_leave_trap, d_Banks_leave_trap := PySem.W.fnOf "leave_trap" "Banks.leave_trap" (defArgs s_Banks_leave_trap) (defBody s_Banks_leave_trap) (defScope s_Banks_leave_trap) .none kV_Banks_leave_trap dc_Banks_leave_trap pm_Banks_leave_trap an_Banks_leave_trap cd_Banks_leave_trap ct_Banks_leave_trap, f_Banks__begin_trap := f_Banks__begin_trap, d_Banks__begin_trap := PySem.W.fnOf "_begin_trap" "Banks._begin_trap" (defArgs s_Banks__begin_trap) (defBody s_Banks__begin_trap) (defScope s_Banks__begin_trap) .none kV_Banks__begin_trap dc_Banks__begin_trap pm_Banks__begin_trap an_Banks__begin_trap cd_Banks__begin_trap ct_Banks__begin_trap, f_Banks__go_down := f_Banks__go_down, d_Banks__go_down := PySem.W.fnOf "_go_down" "Banks._go_down" (defArgs s_Banks__go_down) (defBody s_Banks__go_down) (defScope s_Banks__go_down) .none kV_Banks__go_down dc_Banks__go_down pm_Banks__go_down an_Banks__go_down cd_Banks__go_down ct_Banks__go_down, f_Banks__window_below := f_Banks__window_below, d_Banks__window_below := PySem.W.fnOf "_window_below" "Banks._window_below" (defArgs s_Banks__window_below) (defBody s_Banks__window_below) (defScope s_Banks__window_below) .none kV_Banks__window_below dc_Banks__window_below pm_Banks__window_below an_Banks__window_below cd_Banks__window_below ct_Banks__window_below, f_Banks__window_above := f_Banks__window_above, d_Banks__window_above := PySem.W.fnOf "_window_above" "Banks._window_above" (defArgs s_Banks__window_above) (defBody s_Banks__window_above) (defScope s_Banks__window_above) .none kV_Banks__window_above dc_Banks__window_above pm_Banks__window_above an_Banks__window_above cd_Banks__window_above ct_Banks__window_above, f_law_pick := f_law_pick, d_law_pick := PySem.W.fnOf "_law_pick" "_law_pick" (defArgs s_law_pick) (defBody s_law_pick) (defScope s_law_pick) .none kV_law_pick dc_law_pick pm_law_pick an_law_pick cd_law_pick ct_law_pick, f_law_is_integer := f_law_is_integer, d_law_is_integer := PySem.W.fnOf "_law_is_integer" "_law_is_integer" (defArgs s_law_is_integer) (defBody s_law_is_integer) (defScope s_law_is_integer) .none kV_law_is_integer dc_law_is_integer pm_law_is_integer an_law_is_integer cd_law_is_integer ct_law_is_integer, f_law_word := f_law_word, d_law_word := PySem.W.fnOf "_law_word" "_law_word" (defArgs s_law_word) (defBody s_law_word) (defScope s_law_word) .none kV_law_word dc_law_word pm_law_word an_law_word cd_law_word ct_law_word, f_law_find := f_law_find, d_law_find := PySem.W.fnOf "_law_find" "_law_find" (defArgs s_law_find) (defBody s_law_find) (defScope s_law_find) .none kV_law_find dc_law_find pm_law_find an_law_find cd_law_find ct_law_find, f_law_get := f_law_get, d_law_get := PySem.W.fnOf "_law_get" "_law_get" (defArgs s_law_get) (defBody s_law_get) (defScope s_law_get) .none kV_law_get dc_law_get pm_law_get an_law_get cd_law_get ct_law_get, f_law_set := f_law_set, d_law_set := PySem.W.fnOf "_law_set" "_law_set" (defArgs s_law_set) (defBody s_law_set) (defScope s_law_set) .none kV_law_set dc_law_set pm_law_set an_law_set cd_law_set ct_law_set, f_law_move := f_law_move, d_law_move := PySem.W.fnOf "_law_move" "_law_move" (defArgs s_law_move) (defBody s_law_move) (defScope s_law_move) .none kV_law_move dc_law_move pm_law_move an_law_move cd_law_move ct_law_move, f_law_counts := f_law_counts, d_law_counts := PySem.W.fnOf "_law_counts" "_law_counts" (defArgs s_law_counts) (defBody s_law_counts) (defScope s_law_counts) .none kV_law_counts dc_law_counts pm_law_counts an_law_counts cd_law_counts ct_law_counts, f_law_reads := f_law_reads, d_law_reads := PySem.W.fnOf "_law_reads" "_law_reads" (defArgs s_law_reads) (defBody s_law_reads) (defScope s_law_reads) .none kV_law_reads dc_law_reads pm_law_reads an_law_reads cd_law_reads ct_law_reads, f_law_shift := f_law_shift, d_law_shift := PySem.W.fnOf "_law_shift" "_law_shift" (defArgs s_law_shift) (defBody s_law_shift) (defScope s_law_shift) .none kV_law_shift dc_law_shift pm_law_shift an_law_shift cd_law_shift ct_law_shift, f_law_deed := f_law_deed, d_law_deed := PySem.W.fnOf "_law_deed" "_law_deed" (defArgs s_law_deed) (defBody s_law_deed) (defScope s_law_deed) .none kV_law_deed dc_law_deed pm_law_deed an_law_deed cd_law_deed ct_law_deed, f_law := fa, d_law := PySem.W.fnOf "law" "law" (defArgs s_law) (defBody s_law) (defScope s_law) .none kV_law dc_law pm_law an_law cd_law ct_law, C_Banks := C_Banks }
  have T : Txt K mg a := {
    F_Banks___init__ := fun_mk (st := s_Banks___init__) l_Banks___init__ c_Banks___init__ k_Banks___init__,
    k_Banks___init__ := k_Banks___init__,
    bd_Banks___init__ := (fun_mk (st := s_Banks___init__) l_Banks___init__ c_Banks___init__ k_Banks___init__).binds (ps := ["self", "windows"]) fun _ _ _ _ _ _ us hl => match us, hl with | [_, _], _ => rfl,
    F_Banks_read := fun_mk (st := s_Banks_read) l_Banks_read c_Banks_read k_Banks_read,
    k_Banks_read := k_Banks_read,
    bd_Banks_read := (fun_mk (st := s_Banks_read) l_Banks_read c_Banks_read k_Banks_read).binds (ps := ["self", "number"]) fun _ _ _ _ _ _ us hl => match us, hl with | [_, _], _ => rfl,
    F_Banks_write := fun_mk (st := s_Banks_write) l_Banks_write c_Banks_write k_Banks_write,
    k_Banks_write := k_Banks_write,
    bd_Banks_write := (fun_mk (st := s_Banks_write) l_Banks_write c_Banks_write k_Banks_write).binds (ps := ["self", "number", "word"]) fun _ _ _ _ _ _ us hl => match us, hl with | [_, _, _], _ => rfl,
    F_Banks_shift_down := fun_mk (st := s_Banks_shift_down) l_Banks_shift_down c_Banks_shift_down k_Banks_shift_down,
    k_Banks_shift_down := k_Banks_shift_down,
    bd_Banks_shift_down := (fun_mk (st := s_Banks_shift_down) l_Banks_shift_down c_Banks_shift_down k_Banks_shift_down).binds (ps := ["self"]) fun _ _ _ _ _ _ us hl => match us, hl with | [_], _ => rfl,
    F_Banks_shift_up := fun_mk (st := s_Banks_shift_up) l_Banks_shift_up c_Banks_shift_up k_Banks_shift_up,
    k_Banks_shift_up := k_Banks_shift_up,
    bd_Banks_shift_up := (fun_mk (st := s_Banks_shift_up) l_Banks_shift_up c_Banks_shift_up k_Banks_shift_up).binds (ps := ["self"]) fun _ _ _ _ _ _ us hl => match us, hl with | [_], _ => rfl,
    F_Banks_blocked_down := fun_mk (st := s_Banks_blocked_down) l_Banks_blocked_down c_Banks_blocked_down k_Banks_blocked_down,
    k_Banks_blocked_down := k_Banks_blocked_down,
    bd_Banks_blocked_down := (fun_mk (st := s_Banks_blocked_down) l_Banks_blocked_down c_Banks_blocked_down k_Banks_blocked_down).binds (ps := ["self"]) fun _ _ _ _ _ _ us hl => match us, hl with | [_], _ => rfl,
    F_Banks_blocked_up := fun_mk (st := s_Banks_blocked_up) l_Banks_blocked_up c_Banks_blocked_up k_Banks_blocked_up,
    k_Banks_blocked_up := k_Banks_blocked_up,
    bd_Banks_blocked_up := (fun_mk (st := s_Banks_blocked_up) l_Banks_blocked_up c_Banks_blocked_up k_Banks_blocked_up).binds (ps := ["self"]) fun _ _ _ _ _ _ us hl => match us, hl with | [_], _ => rfl,
    F_Banks_set_bar := fun_mk (st := s_Banks_set_bar) l_Banks_set_bar c_Banks_set_bar k_Banks_set_bar,
    k_Banks_set_bar := k_Banks_set_bar,
    bd_Banks_set_bar := (fun_mk (st := s_Banks_set_bar) l_Banks_set_bar c_Banks_set_bar k_Banks_set_bar).binds (ps := ["self", "number"]) fun _ _ _ _ _ _ us hl => match us, hl with | [_, _], _ => rfl,
    F_Banks_trap_down := fun_mk (st := s_Banks_trap_down) l_Banks_trap_down c_Banks_trap_down k_Banks_trap_down,
    k_Banks_trap_down := k_Banks_trap_down,
    bd_Banks_trap_down := (fun_mk (st := s_Banks_trap_down) l_Banks_trap_down c_Banks_trap_down k_Banks_trap_down).binds (ps := ["self", "address"]) fun _ _ _ _ _ _ us hl => match us, hl with | [_, _], _ => rfl,
    F_Banks_trap_up := fun_mk (st := s_Banks_trap_up) l_Banks_trap_up c_Banks_trap_up k_Banks_trap_up,
    k_Banks_trap_up := k_Banks_trap_up,
    bd_Banks_trap_up := (fun_mk (st := s_Banks_trap_up) l_Banks_trap_up c_Banks_trap_up k_Banks_trap_up).binds (ps := ["self", "address"]) fun _ _ _ _ _ _ us hl => match us, hl with | [_, _], _ => rfl,
    F_Banks_leave_trap := fun_mk (st := s_Banks_leave_trap) l_Banks_leave_trap c_Banks_leave_trap k_Banks_leave_trap,
    k_Banks_leave_trap := k_Banks_leave_trap,
    bd_Banks_leave_trap := (fun_mk (st := s_Banks_leave_trap) l_Banks_leave_trap c_Banks_leave_trap k_Banks_leave_trap).binds (ps := ["self"]) fun _ _ _ _ _ _ us hl => match us, hl with | [_], _ => rfl,
    F_Banks__begin_trap := fun_mk (st := s_Banks__begin_trap) l_Banks__begin_trap c_Banks__begin_trap k_Banks__begin_trap,
    k_Banks__begin_trap := k_Banks__begin_trap,
    bd_Banks__begin_trap := (fun_mk (st := s_Banks__begin_trap) l_Banks__begin_trap c_Banks__begin_trap k_Banks__begin_trap).binds (ps := ["self", "address"]) fun _ _ _ _ _ _ us hl => match us, hl with | [_, _], _ => rfl,
    F_Banks__go_down := fun_mk (st := s_Banks__go_down) l_Banks__go_down c_Banks__go_down k_Banks__go_down,
    k_Banks__go_down := k_Banks__go_down,
    bd_Banks__go_down := (fun_mk (st := s_Banks__go_down) l_Banks__go_down c_Banks__go_down k_Banks__go_down).binds (ps := ["self"]) fun _ _ _ _ _ _ us hl => match us, hl with | [_], _ => rfl,
    F_Banks__window_below := fun_mk (st := s_Banks__window_below) l_Banks__window_below c_Banks__window_below k_Banks__window_below,
    k_Banks__window_below := k_Banks__window_below,
    bd_Banks__window_below := (fun_mk (st := s_Banks__window_below) l_Banks__window_below c_Banks__window_below k_Banks__window_below).binds (ps := ["self"]) fun _ _ _ _ _ _ us hl => match us, hl with | [_], _ => rfl,
    F_Banks__window_above := fun_mk (st := s_Banks__window_above) l_Banks__window_above c_Banks__window_above k_Banks__window_above,
    k_Banks__window_above := k_Banks__window_above,
    bd_Banks__window_above := (fun_mk (st := s_Banks__window_above) l_Banks__window_above c_Banks__window_above k_Banks__window_above).binds (ps := ["self"]) fun _ _ _ _ _ _ us hl => match us, hl with | [_], _ => rfl,
    g__law_pick := PySem.W.mg_of X G a_law_pick,
    F__law_pick := fun_mk (st := s_law_pick) l_law_pick c_law_pick k_law_pick,
    k__law_pick := k_law_pick,
    bd__law_pick := (fun_mk (st := s_law_pick) l_law_pick c_law_pick k_law_pick).binds (ps := ["state", "limit"]) fun _ _ _ _ _ _ us hl => match us, hl with | [_, _], _ => rfl,
    g__law_is_integer := PySem.W.mg_of X G a_law_is_integer,
    F__law_is_integer := fun_mk (st := s_law_is_integer) l_law_is_integer c_law_is_integer k_law_is_integer,
    k__law_is_integer := k_law_is_integer,
    bd__law_is_integer := (fun_mk (st := s_law_is_integer) l_law_is_integer c_law_is_integer k_law_is_integer).binds (ps := ["actual"]) fun _ _ _ _ _ _ us hl => match us, hl with | [_], _ => rfl,
    g__law_word := PySem.W.mg_of X G a_law_word,
    F__law_word := fun_mk (st := s_law_word) l_law_word c_law_word k_law_word,
    k__law_word := k_law_word,
    bd__law_word := (fun_mk (st := s_law_word) l_law_word c_law_word k_law_word).binds (ps := ["state"]) fun _ _ _ _ _ _ us hl => match us, hl with | [_], _ => rfl,
    g__law_find := PySem.W.mg_of X G a_law_find,
    F__law_find := fun_mk (st := s_law_find) l_law_find c_law_find k_law_find,
    k__law_find := k_law_find,
    bd__law_find := (fun_mk (st := s_law_find) l_law_find c_law_find k_law_find).binds (ps := ["model", "number"]) fun _ _ _ _ _ _ us hl => match us, hl with | [_, _], _ => rfl,
    g__law_get := PySem.W.mg_of X G a_law_get,
    F__law_get := fun_mk (st := s_law_get) l_law_get c_law_get k_law_get,
    k__law_get := k_law_get,
    bd__law_get := (fun_mk (st := s_law_get) l_law_get c_law_get k_law_get).binds (ps := ["model", "number"]) fun _ _ _ _ _ _ us hl => match us, hl with | [_, _], _ => rfl,
    g__law_set := PySem.W.mg_of X G a_law_set,
    F__law_set := fun_mk (st := s_law_set) l_law_set c_law_set k_law_set,
    k__law_set := k_law_set,
    bd__law_set := (fun_mk (st := s_law_set) l_law_set c_law_set k_law_set).binds (ps := ["model", "number", "word"]) fun _ _ _ _ _ _ us hl => match us, hl with | [_, _, _], _ => rfl,
    g__law_move := PySem.W.mg_of X G a_law_move,
    F__law_move := fun_mk (st := s_law_move) l_law_move c_law_move k_law_move,
    k__law_move := k_law_move,
    bd__law_move := (fun_mk (st := s_law_move) l_law_move c_law_move k_law_move).binds (ps := ["model", "by"]) fun _ _ _ _ _ _ us hl => match us, hl with | [_, _], _ => rfl,
    g__law_counts := PySem.W.mg_of X G a_law_counts,
    F__law_counts := fun_mk (st := s_law_counts) l_law_counts c_law_counts k_law_counts,
    k__law_counts := k_law_counts,
    bd__law_counts := (fun_mk (st := s_law_counts) l_law_counts c_law_counts k_law_counts).binds (ps := ["banks", "model"]) fun _ _ _ _ _ _ us hl => match us, hl with | [_, _], _ => rfl,
    g__law_reads := PySem.W.mg_of X G a_law_reads,
    F__law_reads := fun_mk (st := s_law_reads) l_law_reads c_law_reads k_law_reads,
    k__law_reads := k_law_reads,
    bd__law_reads := (fun_mk (st := s_law_reads) l_law_reads c_law_reads k_law_reads).binds (ps := ["banks", "model"]) fun _ _ _ _ _ _ us hl => match us, hl with | [_, _], _ => rfl,
    g__law_shift := PySem.W.mg_of X G a_law_shift,
    F__law_shift := fun_mk (st := s_law_shift) l_law_shift c_law_shift k_law_shift,
    k__law_shift := k_law_shift,
    bd__law_shift := (fun_mk (st := s_law_shift) l_law_shift c_law_shift k_law_shift).binds (ps := ["state", "banks", "model", "choice"]) fun _ _ _ _ _ _ us hl => match us, hl with | [_, _, _, _], _ => rfl,
    g__law_deed := PySem.W.mg_of X G a_law_deed,
    F__law_deed := fun_mk (st := s_law_deed) l_law_deed c_law_deed k_law_deed,
    k__law_deed := k_law_deed,
    bd__law_deed := (fun_mk (st := s_law_deed) l_law_deed c_law_deed k_law_deed).binds (ps := ["state", "banks", "model"]) fun _ _ _ _ _ _ us hl => match us, hl with | [_, _, _], _ => rfl,
    g_law := PySem.W.mg_of X G a_law,
    F_law := fun_mk (st := s_law) l_law c_law k_law,
    k_law := k_law,
    bd_law := (fun_mk (st := s_law) l_law c_law k_law).binds (ps := ["script"]) fun _ _ _ _ _ _ us hl => match us, hl with | [_], _ => rfl,
    b_bool := PySem.W.mg_none_of X G z_bool,
    b_int := PySem.W.mg_none_of X G z_int,
    b_isinstance := PySem.W.mg_none_of X G z_isinstance,
    b_len := PySem.W.mg_none_of X G z_len,
    b_range := PySem.W.mg_none_of X G z_range,
    g_Banks := PySem.W.mg_of X G aC_Banks,
    cl_Banks := ⟨pg_Banks, hd_Banks, po_Banks, sa_Banks⟩,
    mk_Banks := ⟨mk_Banks, a_Banks___init__, i_Banks___init__, kC_Banks⟩,
    n_Banks_depth := n_Banks_depth,
    n_Banks_spills := n_Banks_spills,
    n_Banks_fills := n_Banks_fills,
    n_Banks_current := n_Banks_current,
    n_Banks_barred := n_Banks_barred,
    n_Banks__globals := n_Banks__globals,
    n_Banks__windows := n_Banks__windows,
    m_Banks_read := ⟨a_Banks_read, i_Banks_read, k_Banks_read⟩,
    m_Banks_write := ⟨a_Banks_write, i_Banks_write, k_Banks_write⟩,
    m_Banks_shift_down := ⟨a_Banks_shift_down, i_Banks_shift_down, k_Banks_shift_down⟩,
    m_Banks_shift_up := ⟨a_Banks_shift_up, i_Banks_shift_up, k_Banks_shift_up⟩,
    m_Banks_blocked_down := ⟨a_Banks_blocked_down, i_Banks_blocked_down, k_Banks_blocked_down⟩,
    m_Banks_blocked_up := ⟨a_Banks_blocked_up, i_Banks_blocked_up, k_Banks_blocked_up⟩,
    m_Banks_set_bar := ⟨a_Banks_set_bar, i_Banks_set_bar, k_Banks_set_bar⟩,
    m_Banks_trap_down := ⟨a_Banks_trap_down, i_Banks_trap_down, k_Banks_trap_down⟩,
    m_Banks_trap_up := ⟨a_Banks_trap_up, i_Banks_trap_up, k_Banks_trap_up⟩,
    m_Banks_leave_trap := ⟨a_Banks_leave_trap, i_Banks_leave_trap, k_Banks_leave_trap⟩,
    m_Banks__begin_trap := ⟨a_Banks__begin_trap, i_Banks__begin_trap, k_Banks__begin_trap⟩,
    m_Banks__go_down := ⟨a_Banks__go_down, i_Banks__go_down, k_Banks__go_down⟩,
    m_Banks__window_below := ⟨a_Banks__window_below, i_Banks__window_below, k_Banks__window_below⟩,
    m_Banks__window_above := ⟨a_Banks__window_above, i_Banks__window_above, k_Banks__window_above⟩ }
  exact ⟨a.d_law, fun s v => .of_eq rfl, fun base _ _ => ok_law T⟩
theorem walk {l : PySem.W.OpenLaw} {q : Program} {loose : List Str} {XP : (Str → Option Value) → Heap → Prop} {YP : World → Heap → Prop} {d : DefRec} {K : Params → PySem.W.Frag} (hn : l.most = some 63) (hdf : d.params.defaults = [])
    (hY : ∀ (w : World) (h : Heap), YP w h → (K w.params).In h)
    (F : ∀ (w : World) (mg : Str → Option Value) (fa : Addr) (h : Heap), (K w.params).In h → h.Ns mainGlobals mg → mg d.name = some (.ref fa) →
      ∃ fd : FuncData, (∀ (s : Shared) (u : Value), BindsTo s fd ⟨[u], []⟩ [("script", u)]) ∧ ∀ base : Heap, (K w.params).In base → base.Ns mainGlobals mg → FnOk l.prog w (K w.params) mg base CX0 9 fa fd ["script"] (spLaw (K w.params))) :
    PySem.W.WalkO q loose XP YP l.row.toRowW d [] (fun f vs => PySem.call f vs) :=
  L2.walk_of (n := 63) (k := 9) (x := "script") (CX := fun _ => CX0) (sp := fun w => spLaw (K w.params)) hn (by decide) hdf ⟨rfl, by decide, by decide⟩ hY F (fun _ _ a ns hl _ hS => ⟨a, ns, rfl, hS, hl, fun _ => rfl⟩) fun _ _ _ _ _ z => z

end My
open PySem PySem.W PyProof.Rows
set_option maxRecDepth 100000 in
set_option maxHeartbeats 0 in
theorem PySem.Challenge.cw_windowada_k68_banks_holds : PySem.Challenge.rw_windowada_k68_banks.Holds := by
  w_on; o_law; k_head; (case hw => w_witness2)
  k_fill
  refine My.walk (l := PySem.Challenge.rw_windowada_k68_banks) rfl rfl (fun w h Y => PySem.W.kIn_of Y) ?F
  case F =>
    intro w mg fa h KX G hmg
    refine' My.all_mk KX G hmg ?aC_Banks ?pg_Banks ?hd_Banks ?po_Banks ?sa_Banks ?mk_Banks ?kC_Banks ?n_Banks_depth ?n_Banks_spills ?n_Banks_fills ?n_Banks_current ?n_Banks_barred ?n_Banks__globals ?n_Banks__windows ?a_Banks___init__ ?i_Banks___init__ ?l_Banks___init__ ?c_Banks___init__ ?k_Banks___init__ ?a_Banks_read ?i_Banks_read ?l_Banks_read ?c_Banks_read ?k_Banks_read ?a_Banks_write ?i_Banks_write ?l_Banks_write ?c_Banks_write ?k_Banks_write ?a_Banks_shift_down ?i_Banks_shift_down ?l_Banks_shift_down ?c_Banks_shift_down ?k_Banks_shift_down ?a_Banks_shift_up ?i_Banks_shift_up ?l_Banks_shift_up ?c_Banks_shift_up ?k_Banks_shift_up ?a_Banks_blocked_down ?i_Banks_blocked_down ?l_Banks_blocked_down ?c_Banks_blocked_down ?k_Banks_blocked_down ?a_Banks_blocked_up ?i_Banks_blocked_up ?l_Banks_blocked_up ?c_Banks_blocked_up ?k_Banks_blocked_up ?a_Banks_set_bar ?i_Banks_set_bar ?l_Banks_set_bar ?c_Banks_set_bar ?k_Banks_set_bar ?a_Banks_trap_down ?i_Banks_trap_down ?l_Banks_trap_down ?c_Banks_trap_down ?k_Banks_trap_down ?a_Banks_trap_up ?i_Banks_trap_up ?l_Banks_trap_up ?c_Banks_trap_up ?k_Banks_trap_up ?a_Banks_leave_trap ?i_Banks_leave_trap ?l_Banks_leave_trap ?c_Banks_leave_trap ?k_Banks_leave_trap ?a_Banks__begin_trap ?i_Banks__begin_trap ?l_Banks__begin_trap ?c_Banks__begin_trap ?k_Banks__begin_trap ?a_Banks__go_down ?i_Banks__go_down ?l_Banks__go_down ?c_Banks__go_down ?k_Banks__go_down ?a_Banks__window_below ?i_Banks__window_below ?l_Banks__window_below ?c_Banks__window_below ?k_Banks__window_below ?a_Banks__window_above ?i_Banks__window_above ?l_Banks__window_above ?c_Banks__window_above ?k_Banks__window_above ?a_law_pick ?l_law_pick ?c_law_pick ?k_law_pick ?a_law_is_integer ?l_law_is_integer ?c_law_is_integer ?k_law_is_integer ?a_law_word ?l_law_word ?c_law_word ?k_law_word ?a_law_find ?l_law_find ?c_law_find ?k_law_find ?a_law_get ?l_law_get ?c_law_get ?k_law_get ?a_law_set ?l_law_set ?c_law_set ?k_law_set ?a_law_move ?l_law_move ?c_law_move ?k_law_move ?a_law_counts ?l_law_counts ?c_law_counts ?k_law_counts ?a_law_reads ?l_law_reads ?c_law_reads ?k_law_reads ?a_law_shift ?l_law_shift ?c_law_shift ?k_law_shift ?a_law_deed ?l_law_deed ?c_law_deed ?k_law_deed ?a_law ?l_law ?c_law ?k_law ?z_bool ?z_int ?z_isinstance ?z_len ?z_range
    (case aC_Banks => k_is)
    (case pg_Banks => k_is)
    (case hd_Banks => k_is)
    (case po_Banks => k_is)
    (case sa_Banks => k_is)
    (case mk_Banks => k_is)
    (case kC_Banks => k_is)
    (case n_Banks_depth => k_is)
    (case n_Banks_spills => k_is)
    (case n_Banks_fills => k_is)
    (case n_Banks_current => k_is)
    (case n_Banks_barred => k_is)
    (case n_Banks__globals => k_is)
    (case n_Banks__windows => k_is)
    (case a_Banks___init__ => k_is)
    (case i_Banks___init__ => first | rfl | k_is)
    (case l_Banks___init__ => k_is)
    (case c_Banks___init__ => k_is)
    (case k_Banks___init__ => k_is)
    (case a_Banks_read => k_is)
    (case i_Banks_read => first | rfl | k_is)
    (case l_Banks_read => k_is)
    (case c_Banks_read => k_is)
    (case k_Banks_read => k_is)
    (case a_Banks_write => k_is)
    (case i_Banks_write => first | rfl | k_is)
    (case l_Banks_write => k_is)
    (case c_Banks_write => k_is)
    (case k_Banks_write => k_is)
    (case a_Banks_shift_down => k_is)
    (case i_Banks_shift_down => first | rfl | k_is)
    (case l_Banks_shift_down => k_is)
    (case c_Banks_shift_down => k_is)
    (case k_Banks_shift_down => k_is)
    (case a_Banks_shift_up => k_is)
    (case i_Banks_shift_up => first | rfl | k_is)
    (case l_Banks_shift_up => k_is)
    (case c_Banks_shift_up => k_is)
    (case k_Banks_shift_up => k_is)
    (case a_Banks_blocked_down => k_is)
    (case i_Banks_blocked_down => first | rfl | k_is)
    (case l_Banks_blocked_down => k_is)
    (case c_Banks_blocked_down => k_is)
    (case k_Banks_blocked_down => k_is)
    (case a_Banks_blocked_up => k_is)
    (case i_Banks_blocked_up => first | rfl | k_is)
    (case l_Banks_blocked_up => k_is)
    (case c_Banks_blocked_up => k_is)
    (case k_Banks_blocked_up => k_is)
    (case a_Banks_set_bar => k_is)
    (case i_Banks_set_bar => first | rfl | k_is)
    (case l_Banks_set_bar => k_is)
    (case c_Banks_set_bar => k_is)
    (case k_Banks_set_bar => k_is)
    (case a_Banks_trap_down => k_is)
    (case i_Banks_trap_down => first | rfl | k_is)
    (case l_Banks_trap_down => k_is)
    (case c_Banks_trap_down => k_is)
    (case k_Banks_trap_down => k_is)
    (case a_Banks_trap_up => k_is)
    (case i_Banks_trap_up => first | rfl | k_is)
    (case l_Banks_trap_up => k_is)
    (case c_Banks_trap_up => k_is)
    (case k_Banks_trap_up => k_is)
    (case a_Banks_leave_trap => k_is)
    (case i_Banks_leave_trap => first | rfl | k_is)
    (case l_Banks_leave_trap => k_is)
    (case c_Banks_leave_trap => k_is)
    (case k_Banks_leave_trap => k_is)
    (case a_Banks__begin_trap => k_is)
    (case i_Banks__begin_trap => first | rfl | k_is)
    (case l_Banks__begin_trap => k_is)
    (case c_Banks__begin_trap => k_is)
    (case k_Banks__begin_trap => k_is)
    (case a_Banks__go_down => k_is)
    (case i_Banks__go_down => first | rfl | k_is)
    (case l_Banks__go_down => k_is)
    (case c_Banks__go_down => k_is)
    (case k_Banks__go_down => k_is)
    (case a_Banks__window_below => k_is)
    (case i_Banks__window_below => first | rfl | k_is)
    (case l_Banks__window_below => k_is)
    (case c_Banks__window_below => k_is)
    (case k_Banks__window_below => k_is)
    (case a_Banks__window_above => k_is)
    (case i_Banks__window_above => first | rfl | k_is)
    (case l_Banks__window_above => k_is)
    (case c_Banks__window_above => k_is)
    (case k_Banks__window_above => k_is)
    (case a_law_pick => k_is)
    (case l_law_pick => k_is)
    (case c_law_pick => k_is)
    (case k_law_pick => k_is)
    (case a_law_is_integer => k_is)
    (case l_law_is_integer => k_is)
    (case c_law_is_integer => k_is)
    (case k_law_is_integer => k_is)
    (case a_law_word => k_is)
    (case l_law_word => k_is)
    (case c_law_word => k_is)
    (case k_law_word => k_is)
    (case a_law_find => k_is)
    (case l_law_find => k_is)
    (case c_law_find => k_is)
    (case k_law_find => k_is)
    (case a_law_get => k_is)
    (case l_law_get => k_is)
    (case c_law_get => k_is)
    (case k_law_get => k_is)
    (case a_law_set => k_is)
    (case l_law_set => k_is)
    (case c_law_set => k_is)
    (case k_law_set => k_is)
    (case a_law_move => k_is)
    (case l_law_move => k_is)
    (case c_law_move => k_is)
    (case k_law_move => k_is)
    (case a_law_counts => k_is)
    (case l_law_counts => k_is)
    (case c_law_counts => k_is)
    (case k_law_counts => k_is)
    (case a_law_reads => k_is)
    (case l_law_reads => k_is)
    (case c_law_reads => k_is)
    (case k_law_reads => k_is)
    (case a_law_shift => k_is)
    (case l_law_shift => k_is)
    (case c_law_shift => k_is)
    (case k_law_shift => k_is)
    (case a_law_deed => k_is)
    (case l_law_deed => k_is)
    (case c_law_deed => k_is)
    (case k_law_deed => k_is)
    (case a_law => k_is)
    (case l_law => k_is)
    (case c_law => k_is)
    (case k_law => k_is)
    (case z_bool => k_is)
    (case z_int => k_is)
    (case z_isinstance => k_is)
    (case z_len => k_is)
    (case z_range => k_is)

