import PyProof.Rows.All
import Wide.All
import OpenK.AllK
import Wide.FinOn
import HandS.ForMost
import HandS.ForExc
import HandS.Wide
import HandS.IsInst
import HandS.ExcIs
import HandS.WordsExc
import HandS.Property
import HandS.More
import HandS.Codes
import PySem.Challenge.RW_windowada_k18_events_and_fuel
set_option Elab.async false
set_option maxRecDepth 100000
set_option maxHeartbeats 4000000
set_option linter.all false
namespace My
open PySem L2
/-! ### helpers -/
def IsTupOf (o : Obj) (xs : List V) : Prop := o.cls = .type "tuple" ∧ ∃ (its : Array Value) (n : Nat), o.data = .seq its n ∧ its.size ≤ sizeLine ∧ Vals xs its.toList
theorem sqT_of {K : PySem.W.Frag} {H : Hp} {a : Addr} {o : Obj} {xs : List V} (h : K.lookup a = some o) (q : IsTupOf o xs) : SqT K H a xs := by
  obtain ⟨c, its, n, d, z, r⟩ := q
  exact .inr ⟨o, its, n, h, c, d, z, r⟩
theorem upd_self {H : Hp} {a : Addr} {o : HO} (h : H a = some o) : upd H a o = H := by
  funext b
  unfold upd
  split
  · rename_i e; rw [e, h]
  · rfl
theorem exm_of {K : PySem.W.Frag} {S C : Addr} (h1 : PySem.W.subIn K (.ref C) (.type "BaseException") = some true) (h2 : PySem.W.isClsIn K C = true) (h3 : PySem.W.typeIn K (.ref C) = some (.type "type")) {b : Bool} (h4 : PySem.W.subIn K (.ref S) (.ref C) = some b) :
    PySem.W.exmOne K (.ref S) (.ref C) = some b := by
  have e1 : (PySem.W.subIn K (.ref C) (.type "BaseException") == some true) = true := by rw [h1] <;> rfl
  have e2 : ((PySem.W.clsIn K C).isSome && PySem.W.typeIn K (.ref C) == some (.type "type")) = true := by
    have h2' : (PySem.W.clsIn K C).isSome = true := h2
    rw [h2', h3] <;> rfl
  show (if (PySem.W.subIn K (.ref C) (.type "BaseException") == some true) = true then (if ((PySem.W.clsIn K C).isSome && PySem.W.typeIn K (.ref C) == some (.type "type")) = true then PySem.W.subIn K (.ref S) (.ref C) else none) else none) = some b
  rw [if_pos e1, if_pos e2]
  exact h4
theorem sN {H H1 : Hp} {p : Addr} {o : HO} (s : Same H H1) (n : H1 p = none) : Same H (upd H1 p o) := fun b u e => by
  rw [upd_ne (ne_of_none (s b u e) n)]
  exact s b u e
theorem seqT {K : PySem.W.Frag} {H H' : Hp} {a : Addr} {xs : List V} (e : Same H H') (h : SqT K H a xs) : SqT K H' a xs := by
  rcases h with (h | ⟨o, h⟩) | h
  · exact .inl (.inl (e _ _ h))
  · exact .inl (.inr ⟨o, e _ _ h⟩)
  · exact .inr h
theorem ite3 {b : Bool} {A B : Prop} (h1 : b = true → A) (h2 : b = false → B) : if b = true then A else B := by
  cases b with
  | true => exact iteT (h1 rfl)
  | false => exact iteF (h2 rfl)
section
variable {X : Cx}
def rInS (K : PySem.W.Frag) : R2 := fun x y H Q => ∃ p xs, y = .ref p ∧ (SqL K H p xs ∨ SqT K H p xs) ∧ flatV x = true ∧ xs.all flatV = true ∧ Q (.bl (inV x xs)) H
def rNotInS (K : PySem.W.Frag) : R2 := fun x y H Q => ∃ p xs, y = .ref p ∧ (SqL K H p xs ∨ SqT K H p xs) ∧ flatV x = true ∧ xs.all flatV = true ∧ Q (.bl (!inV x xs)) H
theorem op_inS : OpR X (compareOp .In) (rInS X.K) := fun pins s σ H x y v u Q I rx ry h => op_in_seq pins s σ H x y v u Q I rx ry h
theorem op_notInS : OpR X (compareOp .NotIn) (rNotInS X.K) := fun pins s σ H x y v u Q I rx ry h => op_notIn_seq pins s σ H x y v u Q I rx ry h
end
theorem at0 {v : V} {r : List V} : atI (v :: r) 0 = some v := atI_nat (j := 0) rfl
theorem sUpd {H H1 : Hp} {p : Addr} {o : HO} (s : Same H H1) (n : H p = none) : Same H (upd H1 p o) := fun b u e => by
  rw [upd_ne (ne_of_none e n)]
  exact s b u e
/-! ### match over a value -/
structure PMC (X : Cx) (cases : List MatchCase) (t : V → TS) : Prop where
  run : ∀ (first : Bool) (pins : List (Addr × Obj)) (s : Shared) (σ : St) (H : Hp) (D : Ends) (x : V) (v : Value), Inv X pins σ H s → RelV x v → t x D σ H → wpAny (model X.prog X.w) X.A (matchCases cases X.env v first) (SP X pins D) X.xe s
def mNil : V → TS := fun _ D σ H => D.nx σ H
def mStr (z : Str) (t : TS) (u : V → TS) : V → TS := fun x D σ H => scal x (.str z) = true ∧ if decide (x = .str z) = true then t D σ H else u x D σ H
def tMatch (te : TE) (t : V → TS) : TS := fun D σ H => te σ H fun x H1 => t x D σ H1
section
variable {X : Cx}
theorem pmc_nil : PMC X [] mNil := ⟨fun _ _ _ σ H D x v I _ h => wpAny_matchCases_nil ⟨σ, H, I, h⟩⟩
theorem pmc_str {z : Str} {j : Nat} {p p2 : Pos} {body : List Stmt} {rest : List MatchCase} {t : TS} {u : V → TS} (hb : PSs X body t) (hr : PMC X rest u) : PMC X (⟨.MatchValue (.Constant (.str z) j p) p2, none, body⟩ :: rest) (mStr z t u) := by
  refine ⟨fun first pins s σ H D x v I r h => ?_⟩
  obtain ⟨hs, h⟩ := h
  refine wpAny_matchCases_cons (wpAny_matchPattern_Value ?_)
  have hz : PE X (.Constant (.str z) j p) (tC (.str z)) := pe_str
  refine thn (hz.run pins s σ H (fun y H1 => y = .str z ∧ H1 = H) I ⟨rfl, rfl⟩) fun w s1 ⟨y, H1, I1, r1, e1, e2⟩ => ?_
  subst e1; subst e2
  refine thn (op_eq pins s1 σ H1 x (.str z) v w (fun y H2 => y = .bl (decide (x = .str z)) ∧ H2 = H1) I1 r r1 ⟨hs, rfl, rfl⟩) fun c s2 ⟨y, H2, I2, r2, e1, e2⟩ => ?_
  subst e1; subst e2
  cases r2
  refine wpAny_truthy_bool ?_
  cases e : decide (x = V.str z) with
  | true =>
    rw [e] at h
    refine wpAny_assignInOrder_none ?_
    exact hb.run pins s2 σ H2 D I2 (by simpa using h)
  | false =>
    rw [e] at h
    exact hr.run false pins s2 σ H2 D x v I2 r (by simpa using h)
theorem ps_match {e : Expr} {cs : List MatchCase} {pos : Pos} {te : TE} {t : V → TS} (he : PE X e te) (hc : PMC X cs t) : PS X (.Match e cs pos) (tMatch te t) := by
  refine ⟨fun pins s σ H D I h => ?_⟩
  exact wpAny_Match (thn (he.run pins s σ H _ I h) fun v s1 ⟨x, H1, I1, r1, q1⟩ => hc.run true pins s1 σ H1 D x v I1 r1 q1)
/-- isinstance(e, c) in a suite, whatever the caught class is -/
def rIsEx (K : PySem.W.Frag) (a : Addr) (cls : Value) (d : Option Addr) : List V → Hp → VK → Prop := fun xs H Q => ∃ D, cls = .ref D ∧ d = none ∧ ExcC K D ∧ rIsE K D a xs H Q
theorem call_isEx {a : Addr} {cls : Value} {d : Option Addr} {oe : Obj} {pn : List (Addr × Obj)} (hz : Zc cls d oe) (hf : ∃ vs, oe.data = .fields vs) : CallR (X.suite a ((a, oe) :: pn)) (.builtin "isinstance") (rIsEx X.K a cls d) := by
  intro pins s σ H xs us Q I r h
  obtain ⟨D, rfl, rfl, C, h⟩ := h
  exact call_isE C hz hf pins s σ H xs us Q I r h
end
theorem kit_self {K : PySem.W.Frag} {D : Addr} : PySem.W.kitOne K (.ref D) (.ref D) = some true := by
  unfold PySem.W.kitOne
  rw [if_pos (by simp)]
theorem kit_no {K : PySem.W.Frag} {D C : Addr} (h : PySem.W.subIn K (.ref D) (.ref C) = some false) (hs : PySem.W.subIn K (.ref C) (.ref C) = some true) (h2 : PySem.W.isClsIn K C = true) (h3 : PySem.W.typeIn K (.ref C) = some (.type "type")) :
    PySem.W.kitOne K (.ref D) (.ref C) = some false := by
  have ne : ¬ ((Value.ref D == Value.ref C) = true) := fun e => by
    have e' : D = C := by simpa using e
    subst e'
    rw [h] at hs
    exact nomatch hs
  have e2 : ((PySem.W.clsIn K C).isSome && PySem.W.typeIn K (.ref C) == some (.type "type")) = true := by
    have h2' : (PySem.W.clsIn K C).isSome = true := h2
    rw [h2', h3] <;> rfl
  unfold PySem.W.kitOne
  rw [if_neg ne]
  show (if ((PySem.W.clsIn K C).isSome && PySem.W.typeIn K (.ref C) == some (.type "type")) = true then PySem.W.subIn K (.ref D) (.ref C) else none) = some false
  rw [if_pos e2]
  exact h
theorem kit_sub {K : PySem.W.Frag} {D C : Addr} {b : Bool} (h : PySem.W.subIn K (.ref D) (.ref C) = some b) (hs : b = false → PySem.W.subIn K (.ref C) (.ref C) = some true) (h2 : PySem.W.isClsIn K C = true) (h3 : PySem.W.typeIn K (.ref C) = some (.type "type")) :
    PySem.W.kitOne K (.ref D) (.ref C) = some b := by
  cases b with
  | false => exact kit_no h (hs rfl) h2 h3
  | true =>
    have e2 : ((PySem.W.clsIn K C).isSome && PySem.W.typeIn K (.ref C) == some (.type "type")) = true := by
      have h2' : (PySem.W.clsIn K C).isSome = true := h2
      rw [h2', h3] <;> rfl
    unfold PySem.W.kitOne
    split
    · rfl
    · show (if ((PySem.W.clsIn K C).isSome && PySem.W.typeIn K (.ref C) == some (.type "type")) = true then PySem.W.subIn K (.ref D) (.ref C) else none) = some true
      rw [if_pos e2]
      exact h
theorem kit_bt {K : PySem.W.Frag} {D : Addr} {n : String} {b : Bool} (hm : PySem.W.kitMeta n = true) (h : PySem.W.subIn K (.ref D) (.type n) = some b) : PySem.W.kitOne K (.ref D) (.type n) = some b := by
  unfold PySem.W.kitOne
  rw [if_neg (by simp)]
  show (if PySem.W.kitMeta n = true then PySem.W.subIn K (.ref D) (.type n) else none) = some b
  rw [if_pos hm]
  exact h
/-! ### a method that may raise, called in a try -/
section
variable {X : Cx} {CX : CXT} {k : Nat} {f C : Addr} {fd : FuncData} {ps : List Str} {sp : Sp} {E : St → XK} {m : Str} {pos apos : Pos} {e o : Expr} {es : List Expr} {ta : TE} {t : TA}
def tMethE (C : Addr) (m : Str) (sp : Sp) (E : St → XK) (ta : TE) (t : TA) : TE := fun σ H Q => ta σ H fun x H1 => ∃ a dx fs, x = .ref a ∧ H1 a = some (.ins C dx fs) ∧ fs.lookup m = none ∧ t σ H1 fun vs H2 => sp (x :: vs) H2 Q (E σ)
theorem pe_methE0 {pl : Sem Bool} (he : PE X o ta) (c : Cls X.K C) (hm : Meth X.K C m f) (F : FnOk X.prog X.w X.K X.mg X.base CX k f fd ps sp) (hr : Room k X.A) (hb : Binds X.K fd ps []) (hx : ∀ σ, PassesAt CX X σ (E σ))
    (ht : eval (.Call (.Attribute o m apos) [] [] pos) X.env = (do
      let ov ← eval o X.env
      standAt apos.atName
      let (f, first) ← holding [ov] (getMethod ov m pl)
      callWith pos f first (backTo pos (starEach [] X.env)) (backToKw pos (keywordEach [] X.env))) := by rfl) :
    PE X (.Call (.Attribute o m apos) [] [] pos) (tMethE C m sp E ta tNil) := by
  refine ⟨fun pins s σ H Q I h => ?_⟩
  refine PySem.W.methodCall_KW (pl := pl) (thn (he.run pins s σ H _ I h) fun u s1 ⟨x, H1, I1, rx, a, dx, fs, ex, ea, l, q⟩ => ?_) ht
  subst ex
  obtain rfl : u = Value.ref a := rx
  refine getmeth_ok I1 ea c hm l ?_
  exact PySem.W.callWith_K0 (first := [.ref a]) I1.kIn hm.kp (run_fnS (us := [.ref a]) (vs := [.ref a]) F hr hb (hx σ) I1 (.cons rfl .nil) q)
theorem pe_methE {pl : Sem Bool} (he : PE X o ta) (c : Cls X.K C) (hm : Meth X.K C m f) (F : FnOk X.prog X.w X.K X.mg X.base CX k f fd ps sp) (hr : Room k X.A) (hb : Binds X.K fd ps []) (hx : ∀ σ, PassesAt CX X σ (E σ)) (ha : PA X (e :: es) t)
    (hst : starEach (e :: es) X.env = (false, eval e X.env) :: starEach es X.env := by rfl) (hpl : (backTo pos (starEach es X.env)).any (·.1) = false := by rfl)
    (ht : eval (.Call (.Attribute o m apos) (e :: es) [] pos) X.env = (do
      let ov ← eval o X.env
      standAt apos.atName
      let (f, first) ← holding [ov] (getMethod ov m pl)
      callWith pos f first (backTo pos (starEach (e :: es) X.env)) (backToKw pos (keywordEach [] X.env))) := by rfl) :
    PE X (.Call (.Attribute o m apos) (e :: es) [] pos) (tMethE C m sp E ta t) := by
  refine ⟨fun pins s σ H Q I h => ?_⟩
  refine PySem.W.methodCall_KW (pl := pl) (thn (he.run pins s σ H _ I h) fun u s1 ⟨x, H1, I1, rx, a, dx, fs, ex, ea, l, q⟩ => ?_) ht
  subst ex
  obtain rfl : u = Value.ref a := rx
  refine getmeth_ok I1 ea c hm l ?_
  refine PySem.W.callWith_K (first := [.ref a]) (h₀ := X.base) I.ok.mod.kin hm.kp (thn (ha.run pos pins s1 σ H1 _ I1 q) fun us s2 ⟨vs, H2, I2, r, q2⟩ => ⟨I2.kIn, ?_⟩) hst hpl
  exact run_fnS (us := .ref a :: us) (vs := .ref a :: vs) F hr hb (hx σ) I2 (.cons rfl r) q2
end
def spNever : Sp := fun _ _ _ _ => False
theorem tyx_tup {K : PySem.W.Frag} {H : Hp} {a : Addr} {xs : List V} (h : SqT K H a xs) : TyX K H (.ref a) (.type "tuple") := by
  rcases h with (h | ⟨o, h⟩) | ⟨o, its, n, hk, hc, _⟩
  · exact .base (.tup h)
  · exact .fTuple h
  · exact .kTuple hk hc

def top (i : Nat) : Stmt := PySem.Challenge.pw_windowada_k18_events_and_fuel.main.body.getD i (.Pass ⟨0, 0, 0, 0⟩)
abbrev s_Events___init__ : Stmt := inClass (top 15) 0
abbrev s_Events_put : Stmt := inClass (top 15) 1
abbrev s_Events_get : Stmt := inClass (top 15) 2
abbrev s_Events_rows : Stmt := inClass (top 15) 3
abbrev s_Fuel___init__ : Stmt := inClass (top 16) 0
abbrev s_Fuel_tick : Stmt := inClass (top 16) 1
abbrev s_Fuel_remaining : Stmt := inClass (top 16) 2
abbrev s_law_start : Stmt := top 18
abbrev s_law_take : Stmt := top 19
abbrev s_law_word : Stmt := top 20
abbrev s_law_alike : Stmt := top 21
abbrev s_law_constants : Stmt := top 22
abbrev s_law_get : Stmt := top 23
abbrev s_law_tick : Stmt := top 24
abbrev s_law_inputs : Stmt := top 25
abbrev s_law : Stmt := top 26
theorem sc_Events___init__ : FnScope ["self", "inputs"] ["self", "inputs"] (defScope s_Events___init__) := ⟨rfl, rfl, rfl, by decide +kernel, rfl, by decide +kernel, by decide +kernel⟩
theorem sc_Events_put : FnScope ["self", "word"] ["self", "word"] (defScope s_Events_put) := ⟨rfl, rfl, rfl, by decide +kernel, rfl, by decide +kernel, by decide +kernel⟩
theorem sc_Events_get : FnScope ["self", "word"] ["self"] (defScope s_Events_get) := ⟨rfl, rfl, rfl, by decide +kernel, rfl, by decide +kernel, by decide +kernel⟩
theorem sc_Events_rows : FnScope ["self"] ["self"] (defScope s_Events_rows) := ⟨rfl, rfl, rfl, by decide +kernel, rfl, by decide +kernel, by decide +kernel⟩
theorem sc_Fuel___init__ : FnScope ["self", "units"] ["self", "units"] (defScope s_Fuel___init__) := ⟨rfl, rfl, rfl, by decide +kernel, rfl, by decide +kernel, by decide +kernel⟩
theorem sc_Fuel_tick : FnScope ["self"] ["self"] (defScope s_Fuel_tick) := ⟨rfl, rfl, rfl, by decide +kernel, rfl, by decide +kernel, by decide +kernel⟩
theorem sc_Fuel_remaining : FnScope ["self"] ["self"] (defScope s_Fuel_remaining) := ⟨rfl, rfl, rfl, by decide +kernel, rfl, by decide +kernel, by decide +kernel⟩
theorem sc_law_start : FnScope ["script", "great", "seed", "cell"] ["script"] (defScope s_law_start) := ⟨rfl, rfl, rfl, by decide +kernel, rfl, by decide +kernel, by decide +kernel⟩
theorem sc_law_take : FnScope ["state", "many", "digit", "mixed"] ["state", "many"] (defScope s_law_take) := ⟨rfl, rfl, rfl, by decide +kernel, rfl, by decide +kernel, by decide +kernel⟩
theorem sc_law_word : FnScope ["state", "kind"] ["state"] (defScope s_law_word) := ⟨rfl, rfl, rfl, by decide +kernel, rfl, by decide +kernel, by decide +kernel⟩
theorem sc_law_alike : FnScope ["answer", "due", "k"] ["answer", "due"] (defScope s_law_alike) := ⟨rfl, rfl, rfl, by decide +kernel, rfl, by decide +kernel, by decide +kernel⟩
theorem sc_law_constants : FnScope ["names", "numbers", "endings"] [] (defScope s_law_constants) := ⟨rfl, rfl, rfl, by decide +kernel, rfl, by decide +kernel, by decide +kernel⟩
theorem sc_law_get : FnScope ["events", "inputs", "taken", "due", "answer", "raised", "e"] ["events", "inputs", "taken", "due"] (defScope s_law_get) := ⟨rfl, rfl, rfl, by decide +kernel, rfl, by decide +kernel, by decide +kernel⟩
theorem sc_law_tick : FnScope ["fuel", "units", "raised", "answer", "e"] ["fuel", "units"] (defScope s_law_tick) := ⟨rfl, rfl, rfl, by decide +kernel, rfl, by decide +kernel, by decide +kernel⟩
theorem sc_law_inputs : FnScope ["state", "many", "k"] ["state", "many"] (defScope s_law_inputs) := ⟨rfl, rfl, rfl, by decide +kernel, rfl, by decide +kernel, by decide +kernel⟩
theorem sc_law : FnScope ["script", "state", "large", "inputs", "units", "passed", "events", "fuels", "taken", "due", "kept", "turn", "side", "deed", "word", "k", "pair"] ["script"] (defScope s_law) := ⟨rfl, rfl, rfl, by decide +kernel, rfl, by decide +kernel, by decide +kernel⟩
structure Ad where
  f_Events___init__ : Addr
  d_Events___init__ : FuncData
  f_Events_put : Addr
  d_Events_put : FuncData
  f_Events_get : Addr
  d_Events_get : FuncData
  f_Events_rows : Addr
  d_Events_rows : FuncData
  p_Events_rows : Addr
  f_Fuel___init__ : Addr
  d_Fuel___init__ : FuncData
  f_Fuel_tick : Addr
  d_Fuel_tick : FuncData
  f_Fuel_remaining : Addr
  d_Fuel_remaining : FuncData
  p_Fuel_remaining : Addr
  f_law_start : Addr
  d_law_start : FuncData
  f_law_take : Addr
  d_law_take : FuncData
  f_law_word : Addr
  d_law_word : FuncData
  f_law_alike : Addr
  d_law_alike : FuncData
  f_law_constants : Addr
  d_law_constants : FuncData
  f_law_get : Addr
  d_law_get : FuncData
  f_law_tick : Addr
  d_law_tick : FuncData
  f_law_inputs : Addr
  d_law_inputs : FuncData
  f_law : Addr
  d_law : FuncData
  t_CONSTRAINT : Tok
  t_DEPTH_LIMIT : Tok
  t_END : Tok
  c_EXHAUSTED : Addr
  c_FAULT : Addr
  c_NORMAL : Addr
  c_PREDEFINED : Addr
  t_PROGRAM : Tok
  c_STOPPED : Addr
  t_STORAGE : Tok
  C_AdaError : Addr
  C_NoInput : Addr
  C_OutOfFuel : Addr
  C_Events : Addr
  C_Fuel : Addr
structure Txt (K : PySem.W.Frag) (mg : Str → Option Value) (a : Ad) : Prop where
  F_Events___init__ : Fun K "__init__" "Events.__init__" s_Events___init__ a.f_Events___init__ a.d_Events___init__
  k_Events___init__ : PySem.W.keepIn K (.ref a.f_Events___init__) = true
  bd_Events___init__ : Binds K a.d_Events___init__ ["self", "inputs"] []
  F_Events_put : Fun K "put" "Events.put" s_Events_put a.f_Events_put a.d_Events_put
  k_Events_put : PySem.W.keepIn K (.ref a.f_Events_put) = true
  bd_Events_put : Binds K a.d_Events_put ["self", "word"] []
  F_Events_get : Fun K "get" "Events.get" s_Events_get a.f_Events_get a.d_Events_get
  k_Events_get : PySem.W.keepIn K (.ref a.f_Events_get) = true
  bd_Events_get : Binds K a.d_Events_get ["self"] []
  F_Events_rows : Fun K "rows" "Events.rows" s_Events_rows a.f_Events_rows a.d_Events_rows
  k_Events_rows : PySem.W.keepIn K (.ref a.f_Events_rows) = true
  bd_Events_rows : Binds K a.d_Events_rows ["self"] []
  pr_Events_rows : PropOf K a.C_Events "rows" a.p_Events_rows a.f_Events_rows
  F_Fuel___init__ : Fun K "__init__" "Fuel.__init__" s_Fuel___init__ a.f_Fuel___init__ a.d_Fuel___init__
  k_Fuel___init__ : PySem.W.keepIn K (.ref a.f_Fuel___init__) = true
  bd_Fuel___init__ : Binds K a.d_Fuel___init__ ["self", "units"] []
  F_Fuel_tick : Fun K "tick" "Fuel.tick" s_Fuel_tick a.f_Fuel_tick a.d_Fuel_tick
  k_Fuel_tick : PySem.W.keepIn K (.ref a.f_Fuel_tick) = true
  bd_Fuel_tick : Binds K a.d_Fuel_tick ["self"] []
  F_Fuel_remaining : Fun K "remaining" "Fuel.remaining" s_Fuel_remaining a.f_Fuel_remaining a.d_Fuel_remaining
  k_Fuel_remaining : PySem.W.keepIn K (.ref a.f_Fuel_remaining) = true
  bd_Fuel_remaining : Binds K a.d_Fuel_remaining ["self"] []
  pr_Fuel_remaining : PropOf K a.C_Fuel "remaining" a.p_Fuel_remaining a.f_Fuel_remaining
  g__law_start : mg "_law_start" = some (.ref a.f_law_start)
  F__law_start : Fun K "_law_start" "_law_start" s_law_start a.f_law_start a.d_law_start
  k__law_start : PySem.W.keepIn K (.ref a.f_law_start) = true
  bd__law_start : Binds K a.d_law_start ["script"] []
  g__law_take : mg "_law_take" = some (.ref a.f_law_take)
  F__law_take : Fun K "_law_take" "_law_take" s_law_take a.f_law_take a.d_law_take
  k__law_take : PySem.W.keepIn K (.ref a.f_law_take) = true
  bd__law_take : Binds K a.d_law_take ["state", "many"] []
  g__law_word : mg "_law_word" = some (.ref a.f_law_word)
  F__law_word : Fun K "_law_word" "_law_word" s_law_word a.f_law_word a.d_law_word
  k__law_word : PySem.W.keepIn K (.ref a.f_law_word) = true
  bd__law_word : Binds K a.d_law_word ["state"] []
  g__law_alike : mg "_law_alike" = some (.ref a.f_law_alike)
  F__law_alike : Fun K "_law_alike" "_law_alike" s_law_alike a.f_law_alike a.d_law_alike
  k__law_alike : PySem.W.keepIn K (.ref a.f_law_alike) = true
  bd__law_alike : Binds K a.d_law_alike ["answer", "due"] []
  g__law_constants : mg "_law_constants" = some (.ref a.f_law_constants)
  F__law_constants : Fun K "_law_constants" "_law_constants" s_law_constants a.f_law_constants a.d_law_constants
  k__law_constants : PySem.W.keepIn K (.ref a.f_law_constants) = true
  bd__law_constants : Binds K a.d_law_constants [] []
  g__law_get : mg "_law_get" = some (.ref a.f_law_get)
  F__law_get : Fun K "_law_get" "_law_get" s_law_get a.f_law_get a.d_law_get
  k__law_get : PySem.W.keepIn K (.ref a.f_law_get) = true
  bd__law_get : Binds K a.d_law_get ["events", "inputs", "taken", "due"] []
  g__law_tick : mg "_law_tick" = some (.ref a.f_law_tick)
  F__law_tick : Fun K "_law_tick" "_law_tick" s_law_tick a.f_law_tick a.d_law_tick
  k__law_tick : PySem.W.keepIn K (.ref a.f_law_tick) = true
  bd__law_tick : Binds K a.d_law_tick ["fuel", "units"] []
  g__law_inputs : mg "_law_inputs" = some (.ref a.f_law_inputs)
  F__law_inputs : Fun K "_law_inputs" "_law_inputs" s_law_inputs a.f_law_inputs a.d_law_inputs
  k__law_inputs : PySem.W.keepIn K (.ref a.f_law_inputs) = true
  bd__law_inputs : Binds K a.d_law_inputs ["state", "many"] []
  g_law : mg "law" = some (.ref a.f_law)
  F_law : Fun K "law" "law" s_law a.f_law a.d_law
  k_law : PySem.W.keepIn K (.ref a.f_law) = true
  bd_law : Binds K a.d_law ["script"] []
  g_CONSTRAINT : mg "CONSTRAINT" = some (.int (0) a.t_CONSTRAINT)
  g_DEPTH_LIMIT : mg "DEPTH_LIMIT" = some (.int (10) a.t_DEPTH_LIMIT)
  g_END : mg "END" = some (.int (3) a.t_END)
  g_EXHAUSTED : mg "EXHAUSTED" = some (.ref a.c_EXHAUSTED)
  q_EXHAUSTED : ∀ H : Hp, SqT K H a.c_EXHAUSTED [.str "exhausted"]
  g_FAULT : mg "FAULT" = some (.ref a.c_FAULT)
  q_FAULT : ∀ H : Hp, SqT K H a.c_FAULT [.str "fault"]
  g_NORMAL : mg "NORMAL" = some (.ref a.c_NORMAL)
  q_NORMAL : ∀ H : Hp, SqT K H a.c_NORMAL [.str "normal"]
  g_PREDEFINED : mg "PREDEFINED" = some (.ref a.c_PREDEFINED)
  q_PREDEFINED : ∀ H : Hp, SqT K H a.c_PREDEFINED [.str "constraint_error", .str "program_error", .str "storage_error", .str "end_error"]
  g_PROGRAM : mg "PROGRAM" = some (.int (1) a.t_PROGRAM)
  g_STOPPED : mg "STOPPED" = some (.ref a.c_STOPPED)
  q_STOPPED : ∀ H : Hp, SqT K H a.c_STOPPED [.str "stopped"]
  g_STORAGE : mg "STORAGE" = some (.int (2) a.t_STORAGE)
  b_ValueError : mg "ValueError" = none
  b_bool : mg "bool" = none
  b_int : mg "int" = none
  b_isinstance : mg "isinstance" = none
  b_len : mg "len" = none
  b_list : mg "list" = none
  b_max : mg "max" = none
  b_min : mg "min" = none
  b_property : mg "property" = none
  b_range : mg "range" = none
  b_str : mg "str" = none
  b_tuple : mg "tuple" = none
  g_AdaError : mg "AdaError" = some (.ref a.C_AdaError)
  x_AdaError : PySem.W.excIn K a.C_AdaError [.type "ValueError", .type "Exception", .type "BaseException", .type "object"] "ValueError.__new__" = true
  kC_AdaError : PySem.W.keepIn K (.ref a.C_AdaError) = true
  s1_AdaError : PySem.W.subIn K (.ref a.C_AdaError) (.type "BaseException") = some true
  ty_AdaError : PySem.W.typeIn K (.ref a.C_AdaError) = some (.type "type")
  ic_AdaError : PySem.W.isClsIn K a.C_AdaError = true
  g_NoInput : mg "NoInput" = some (.ref a.C_NoInput)
  x_NoInput : PySem.W.excIn K a.C_NoInput [.type "ValueError", .type "Exception", .type "BaseException", .type "object"] "ValueError.__new__" = true
  kC_NoInput : PySem.W.keepIn K (.ref a.C_NoInput) = true
  s1_NoInput : PySem.W.subIn K (.ref a.C_NoInput) (.type "BaseException") = some true
  ty_NoInput : PySem.W.typeIn K (.ref a.C_NoInput) = some (.type "type")
  ic_NoInput : PySem.W.isClsIn K a.C_NoInput = true
  ec_NoInput : ExcC K a.C_NoInput
  g_OutOfFuel : mg "OutOfFuel" = some (.ref a.C_OutOfFuel)
  x_OutOfFuel : PySem.W.excIn K a.C_OutOfFuel [.type "ValueError", .type "Exception", .type "BaseException", .type "object"] "ValueError.__new__" = true
  kC_OutOfFuel : PySem.W.keepIn K (.ref a.C_OutOfFuel) = true
  s1_OutOfFuel : PySem.W.subIn K (.ref a.C_OutOfFuel) (.type "BaseException") = some true
  ty_OutOfFuel : PySem.W.typeIn K (.ref a.C_OutOfFuel) = some (.type "type")
  ic_OutOfFuel : PySem.W.isClsIn K a.C_OutOfFuel = true
  ec_OutOfFuel : ExcC K a.C_OutOfFuel
  g_Events : mg "Events" = some (.ref a.C_Events)
  cl_Events : Cls K a.C_Events
  mk_Events : Mk K a.C_Events a.f_Events___init__
  n_Events__inputs : NoAttr K a.C_Events "_inputs"
  n_Events__taken : NoAttr K a.C_Events "_taken"
  n_Events__rows : NoAttr K a.C_Events "_rows"
  m_Events_put : Meth K a.C_Events "put" a.f_Events_put
  m_Events_get : Meth K a.C_Events "get" a.f_Events_get
  g_Fuel : mg "Fuel" = some (.ref a.C_Fuel)
  cl_Fuel : Cls K a.C_Fuel
  mk_Fuel : Mk K a.C_Fuel a.f_Fuel___init__
  n_Fuel__left : NoAttr K a.C_Fuel "_left"
  m_Fuel_tick : Meth K a.C_Fuel "tick" a.f_Fuel_tick
  e_NoInput_AdaError : PySem.W.exmOne K (.ref a.C_NoInput) (.ref a.C_AdaError) = some true
  e_OutOfFuel_AdaError : PySem.W.exmOne K (.ref a.C_OutOfFuel) (.ref a.C_AdaError) = some true
  i_NoInput_NoInput : PySem.W.kitOne K (.ref a.C_NoInput) (.ref a.C_NoInput) = some true
  i_NoInput_OutOfFuel : PySem.W.kitOne K (.ref a.C_NoInput) (.ref a.C_OutOfFuel) = some false
  i_NoInput_ValueError : PySem.W.kitOne K (.ref a.C_NoInput) (.type "ValueError") = some true
  i_OutOfFuel_NoInput : PySem.W.kitOne K (.ref a.C_OutOfFuel) (.ref a.C_NoInput) = some false
  i_OutOfFuel_OutOfFuel : PySem.W.kitOne K (.ref a.C_OutOfFuel) (.ref a.C_OutOfFuel) = some true
  i_OutOfFuel_ValueError : PySem.W.kitOne K (.ref a.C_OutOfFuel) (.type "ValueError") = some true
def wd (x : Int) : Prop := -2147483648 ≤ x ∧ x ≤ 2147483647
/-! ### the draws: _law_start, _law_take -/
def StAt (H : Hp) (st g : Addr) : Prop := ∃ (gs : List Int) (d s2 s3 : Int), H st = some (.lst [.ref g, .int d, .int s2, .int s3]) ∧ H g = some (.lst (gs.map V.int))
def Fr2 (st g : Addr) (H H' : Hp) : Prop := ∀ b o, H b = some o → b ≠ st → b ≠ g → H' b = some o
theorem StAt.ne {H : Hp} {st g : Addr} (h : StAt H st g) : st ≠ g := by
  obtain ⟨gs, d, s2, s3, h1, h2⟩ := h
  refine ne_of h1 h2 fun e => ?_
  injection e with e
  cases gs with
  | nil => exact nomatch e
  | cons x r => injection e with e _; exact nomatch e
theorem fr2_refl {st g : Addr} {H : Hp} : Fr2 st g H H := fun _ _ e _ _ => e
theorem fr2_trans {st g : Addr} {H H1 H2 : Hp} (x : Fr2 st g H H1) (y : Fr2 st g H1 H2) : Fr2 st g H H2 := fun b o e n1 n2 => y b o (x b o e n1 n2) n1 n2
theorem fr2_st {st g : Addr} {H H1 : Hp} {o : HO} (x : Fr2 st g H H1) : Fr2 st g H (upd H1 st o) := fun b u e n1 n2 => by
  rw [upd_ne n1]; exact x b u e n1 n2
theorem fr2_g {st g : Addr} {H H1 : Hp} {o : HO} (x : Fr2 st g H H1) : Fr2 st g H (upd H1 g o) := fun b u e n1 n2 => by
  rw [upd_ne n2]; exact x b u e n1 n2
theorem fr2_new {st g p : Addr} {H H1 : Hp} {o : HO} (x : Fr2 st g H H1) (n : H1 p = none) : Fr2 st g H (upd H1 p o) := fun b u e n1 n2 => by
  rw [upd_ne (ne_of_none (x b u e n1 n2) n)]; exact x b u e n1 n2
theorem st_new {st g p : Addr} {H : Hp} {o : HO} (x : StAt H st g) (n : H p = none) : StAt (upd H p o) st g := by
  obtain ⟨gs, d, s2, s3, h1, h2⟩ := x
  exact ⟨gs, d, s2, s3, by rw [upd_ne (ne_of_none h1 n)]; exact h1, by rw [upd_ne (ne_of_none h2 n)]; exact h2⟩
theorem st_same {st g : Addr} {H H1 : Hp} (x : StAt H st g) (s : Same H H1) : StAt H1 st g := by
  obtain ⟨gs, d, s2, s3, h1, h2⟩ := x
  exact ⟨gs, d, s2, s3, s _ _ h1, s _ _ h2⟩
theorem fr2_same {st g : Addr} {H H1 : Hp} (s : Same H H1) : Fr2 st g H H1 := fun b o e _ _ => s b o e
/-- what was there ahead of the state -/
theorem same_fr2 {st g : Addr} {H0 H H1 : Hp} (s : Same H0 H) (x : Fr2 st g H H1) (n1 : H0 st = none) (n2 : H0 g = none) : Same H0 H1 := fun b o e => x b o (s b o e) (ne_of_none e n1) (ne_of_none e n2)
def spStart (K : PySem.W.Frag) : Sp := fun vs H Q _ => ∃ (sa : Addr) (ns : List Int), vs = [.ref sa] ∧ SqL K H sa (ns.map V.int) ∧ ns.length ≤ 63 ∧ ∀ (st g : Addr) (H' : Hp), H st = none → H g = none → StAt H' st g → Same H H' → Q (.ref st) H'
def spTake : Sp := fun vs H Q _ => ∃ (st g : Addr) (m : Int), vs = [.ref st, .int m] ∧ StAt H st g ∧ 0 < m ∧ m < 2 ^ 62 ∧ ∀ (v : Int) (H' : Hp), 0 ≤ v → v < m → StAt H' st g → Fr2 st g H H' → Q (.int v) H'
section
variable {P : Program} {w : World} {K : PySem.W.Frag} {mg : Str → Option Value} {base : Heap} {a : Ad}
theorem ok_law_start (T : Txt K mg a) : FnOk P w K mg base CX0 1 a.f_law_start a.d_law_start ["script"] (spStart K) := by
  refine T.F__law_start.ok sc_law_start (fun vs H Q E h => ?_) (fun cdv A outer s H vs Q E hr h => ?_)
  · obtain ⟨_, _, rfl, _⟩ := h; rfl
  · obtain ⟨sa, ns, rfl, hS, hl, q⟩ := h
    refine ⟨_, (pss_cons (ps_set (i := 1) sc_law_start.nd rfl (Or.inl rfl) (pe_lst pa_nil))
      (pss_cons (ps_set (i := 2) sc_law_start.nd rfl (Or.inl rfl) pe_int)
      (pss_cons (ps_for PassesOwn.never rfl (pi_list (pv 0)) (pg_name (i := 3) sc_law_start.nd rfl (Or.inl rfl)) (pss_cons (ps_set (i := 2) sc_law_start.nd rfl (Or.inl rfl) (pe_op op_mod (pe_callTy call_int1 (by rfl) T.b_int (by decide +kernel) (pa_cons (pe_op op_add (pe_op op_add (pe_op op_mul (pv 2) pe_int) (pv 3)) pe_int) pa_nil)) pe_int))
      (pss_one (ps_if (pt_cmpR op_ge (pv 3) (pe_op op_pow pe_int pe_int) (nomark _)) (pss_one (ps_expr (pe_bm PySem.F.plainAttrs_list PySem.F.slot_list_append PySem.F.type_list_append mt_append (pv 1) (pa_cons (pv 3) pa_nil)))) pss_nil))))
      (pss_one (ps_ret (pe_lst (pa_cons (pv 1) (pa_cons pe_int (pa_cons (pe_op op_add pe_int (pe_op op_mod (pe_callTy call_int1 (by rfl) T.b_int (by decide +kernel) (pa_cons (pv 2) pa_nil)) pe_int)) (pa_cons pe_int pa_nil)))))))))), ?_⟩
    refine ⟨by decide, fun g ng => ⟨_, rfl, sa, rfl, ⟨_, (Same.seq (sN (Same.refl H) ng) hS)⟩, for_list (K := K) (a := sa) (xs := ns.map V.int)
      (fun i σ H1 => ∃ (z : Int) (x : Option V) (gs : List Int), σ = [some (.ref sa), some (.ref g), some (.int z), x] ∧ H1 g = some (.lst (gs.map V.int)) ∧ gs.length ≤ i ∧ Same H H1)
      ⟨11, none, [], rfl, upd_same, Nat.le_refl _, sN (Same.refl H) ng⟩ (fun i σ H1 _ ⟨_, _, _, _, _, _, ss⟩ => ss.seq hS) ?_ ?_⟩⟩
    · rintro i x σ H1 hi ⟨z, x0, gs, rfl, hg, hgl, ss⟩
      have hilt : i < ns.length := by
        have := (List.getElem?_eq_some_iff.mp hi).1
        simpa using this
      obtain ⟨c, rfl⟩ : ∃ c, x = V.int c := by
        rw [List.getElem?_map] at hi
        cases e : ns[i]? with
        | none => rw [e] at hi; cases hi
        | some c => rw [e] at hi; exact ⟨c, (Option.some.inj hi).symm⟩
      refine ⟨_, rfl, _, _, rfl, rfl, .inr (by decide), _, rfl, _, _, rfl, rfl, _, _, rfl, rfl, .inl ⟨_, rfl, _, _, rfl, rfl, (by show (0 : Int) < 2147483647; decide), ?_⟩⟩
      refine ⟨_, rfl, _, _, rfl, rfl, ⟨by decide, by decide, by decide⟩, _, _, rfl, rfl, _, rfl, ite3 (fun e => ?_) (fun e => ?_)⟩
      · refine ⟨_, rfl, .inl ⟨rfl, _, SqL.of hg⟩, _, rfl, g, _, _, rfl, rfl, hg, small1000 (by simp; omega), ?_⟩
        exact ⟨_, _, gs ++ [c], rfl, by rw [upd_same, List.map_append]; rfl, by rw [List.length_append]; simp; omega, sUpd ss ng⟩
      · exact ⟨_, _, gs, rfl, hg, by omega, ss⟩
    · rintro σ H1 ⟨z, x0, gs, rfl, hg, _, ss⟩
      refine ⟨_, rfl, _, rfl, .inl ⟨_, rfl, _, _, rfl, rfl, (by show (0 : Int) < 2147483600; decide), _, _, rfl, rfl, (by show 4 ≤ sizeLine; decide), fun st nst => ?_⟩⟩
      refine q st g _ (ss.free nst) ng ⟨gs, _, _, _, upd_same, ?_⟩ (sN ss nst)
      rw [upd_ne (ne_of_none hg nst)]
      exact hg
theorem ok_law_take (T : Txt K mg a) : FnOk P w K mg base CX0 1 a.f_law_take a.d_law_take ["state", "many"] spTake := by
  refine T.F__law_take.ok sc_law_take (fun vs H Q E h => ?_) (fun cdv A outer s H vs Q E hr h => ?_)
  · obtain ⟨_, _, _, rfl, _⟩ := h; rfl
  · obtain ⟨st, g, m, rfl, hSt, hm, hm2, q⟩ := h
    have hdv : ∀ i, CDivW i m := fun i => wide_div (b := 62) hm (by omega) (by decide) (by decide)
    have nsg := hSt.ne
    refine ⟨_, (C8.pss_cut (ps_if (PW.pt (pw_and (pt_cmpR op_eq (pe_ix ix_list (pv 0) pe_int (fun _ _ => rfl)) pe_int (nomark _)) (pw_and1 (pt_cmpR op_gt (pe_callB call_len_seq (by rfl) T.b_len (by decide +kernel) (pa_cons (pe_ix ix_list (pv 0) pe_int (fun _ _ => rfl)) pa_nil)) pe_int (nomark _))))) (pss_one (ps_asg (pe_bm PySem.F.plainAttrs_list PySem.F.slot_list_pop PySem.F.type_list_pop mt_popAt (pe_ix ix_list (pv 0) pe_int (fun _ _ => rfl)) (pa_cons pe_int pa_nil)) (pg_sub (pv 0) pe_int set_list))) pss_nil)
      (pss_cons (ps_if (pt_cmpR op_gt (pe_ix ix_list (pv 0) pe_int (fun _ _ => rfl)) pe_int (nomark _)) (pss_cons (ps_set (i := 2) sc_law_take.nd rfl (Or.inl rfl) (pe_op op_mod (pe_callTy call_int1 (by rfl) T.b_int (by decide +kernel) (pa_cons (pe_ix ix_list (pv 0) pe_int (fun _ _ => rfl)) pa_nil)) (pv 1)))
      (pss_cons (ps_asg (pe_op op_fdivW (pe_ix ix_list (pv 0) pe_int (fun _ _ => rfl)) (pv 1)) (pg_sub (pv 0) pe_int set_list))
      (pss_one (ps_ret (pv 2))))) pss_nil)
      (pss_cons (ps_asg (pe_op op_mod (pe_callTy call_int1 (by rfl) T.b_int (by decide +kernel) (pa_cons (pe_op op_mul (pe_ix ix_list (pv 0) pe_int (fun _ _ => rfl)) pe_int) pa_nil)) pe_int) (pg_sub (pv 0) pe_int set_list))
      (pss_cons (ps_asg (pe_op op_add (pe_ix ix_list (pv 0) pe_int (fun _ _ => rfl)) pe_int) (pg_sub (pv 0) pe_int set_list))
      (pss_cons (ps_set (i := 3) sc_law_take.nd rfl (Or.inl rfl) (pe_op op_mod (pe_callTy call_int1 (by rfl) T.b_int (by decide +kernel) (pa_cons (pe_op op_add (pe_op op_mul (pe_ix ix_list (pv 0) pe_int (fun _ _ => rfl)) pe_int) (pe_op op_mul (pe_ix ix_list (pv 0) pe_int (fun _ _ => rfl)) pe_int)) pa_nil)) pe_int))
      (pss_one (ps_ret (pe_op op_mod (pe_callTy call_int1 (by rfl) T.b_int (by decide +kernel) (pa_cons (pv 3) pa_nil)) (pv 1))))))))), ?_⟩
    obtain ⟨gs, d, s2, s3, h1, h2⟩ := hSt
    refine ⟨fun σ H1 => σ = [some (.ref st), some (.int m), none, none] ∧ ∃ (gs : List Int) (d s2 s3 : Int), H1 st = some (.lst [.ref g, .int d, .int s2, .int s3]) ∧ H1 g = some (.lst (gs.map V.int)) ∧ Fr2 st g H H1, ?_, ?_⟩
    · refine ⟨_, rfl, _, _, _, _, rfl, rfl, SqL.of h1, rfl, rfl, _, rfl, ite3 (fun e1 => ?_) (fun e1 => ?_)⟩
      · refine ⟨_, rfl, _, _, _, _, rfl, rfl, SqL.of h1, rfl, _, _, rfl, .inl (SqL.of h2), _, _, rfl, rfl, _, rfl, ite3 (fun e2 => ?_) (fun e2 => ?_)⟩
        · cases gs with
          | nil => simp at e2
          | cons x r =>
            refine ⟨_, rfl, _, _, _, _, rfl, rfl, SqL.of h1, rfl, .inl ⟨rfl, _, SqL.of h2⟩, g, _, 0, 0, V.int x, rfl, rfl, h2, by decide, by decide, by simp [seqIndex?], by simp, ?_⟩
            have h1' : upd H g (.lst (List.eraseIdx (List.map V.int (x :: r)) 0)) st = some (.lst [.ref g, .int d, .int s2, .int s3]) := by rw [upd_ne nsg]; exact h1
            refine ⟨_, rfl, _, _, _, _, rfl, rfl, h1', rfl, ?_⟩
            exact ⟨rfl, r, x, s2, s3, upd_same, by rw [upd_ne nsg.symm, upd_same]; rfl, fr2_st (fr2_g fr2_refl)⟩
        · exact ⟨rfl, gs, d, s2, s3, h1, h2, fr2_refl⟩
      · exact iteF ⟨rfl, gs, d, s2, s3, h1, h2, fr2_refl⟩
    clear h1 h2 d s2 s3 gs
    rintro σ H1 ⟨rfl, gs, d, s2, s3, h1, h2, f⟩
    refine ⟨_, rfl, _, _, _, _, rfl, rfl, SqL.of h1, rfl, _, _, rfl, rfl, _, rfl, ite3 (fun e1 => ?_) (fun e1 => ?_)⟩
    · refine ⟨_, rfl, _, _, _, _, rfl, rfl, SqL.of h1, rfl, .inl ⟨_, rfl, _, rfl, _, _, rfl, rfl, hm, ?_⟩⟩
      refine ⟨_, rfl, _, _, _, _, rfl, rfl, SqL.of h1, rfl, _, rfl, _, _, rfl, rfl, hdv _, _, rfl, _, _, _, _, rfl, rfl, h1, rfl, ?_⟩
      refine ⟨_, rfl, q _ _ (Int.emod_nonneg _ (by omega)) (Int.emod_lt_of_pos _ hm) ⟨gs, _, _, _, upd_same, by rw [upd_ne nsg.symm]; exact h2⟩ (fr2_st f)⟩
    · refine ⟨_, rfl, _, _, _, _, rfl, rfl, SqL.of h1, rfl, _, _, rfl, rfl, .inr (by decide), .inl ⟨_, rfl, _, _, rfl, rfl, (by show (0 : Int) < 2147483647; decide), _, rfl, _, _, _, _, rfl, rfl, h1, rfl, ?_⟩⟩
      refine ⟨_, rfl, _, _, _, _, rfl, rfl, SqL.of upd_same, rfl, _, _, rfl, rfl, _, rfl, _, _, _, _, rfl, rfl, upd_same, rfl, ?_⟩
      rw [upd_upd]
      refine ⟨_, rfl, _, _, _, _, rfl, rfl, SqL.of upd_same, rfl, _, _, rfl, rfl, .inr (by decide), _, rfl, _, _, _, _, rfl, rfl, SqL.of upd_same, rfl, _, _, rfl, rfl, .inr (by decide), _, _, rfl, rfl, .inl ⟨_, rfl, _, _, rfl, rfl, (by show (0 : Int) < 2147483629; decide), ?_⟩⟩
      refine ⟨_, rfl, .inl ⟨_, rfl, _, rfl, _, _, rfl, rfl, hm, ?_⟩⟩
      exact q _ _ (Int.emod_nonneg _ (by omega)) (Int.emod_lt_of_pos _ hm) ⟨gs, _, _, _, upd_same, by rw [upd_ne nsg.symm]; exact h2⟩ (fr2_st f)
end

/-! ### _law_word -/
def spWordL : Sp := fun vs H Q _ => ∃ (st g : Addr), vs = [.ref st] ∧ StAt H st g ∧ ∀ (v : Int) (H' : Hp), wd v → StAt H' st g → Fr2 st g H H' → Q (.int v) H'
theorem w8 (j : Nat) (h : j < 8) : ∃ x, [V.int 46339, V.int 46340, V.int 46341, V.int (-46341), V.int 65536, V.int (-65536), V.int 32768, V.int (-32768)][j]? = some (V.int x) ∧ wd x := by
  match j, h with
  | 0, _ => exact ⟨_, rfl, by decide, by decide⟩
  | 1, _ => exact ⟨_, rfl, by decide, by decide⟩
  | 2, _ => exact ⟨_, rfl, by decide, by decide⟩
  | 3, _ => exact ⟨_, rfl, by decide, by decide⟩
  | 4, _ => exact ⟨_, rfl, by decide, by decide⟩
  | 5, _ => exact ⟨_, rfl, by decide, by decide⟩
  | 6, _ => exact ⟨_, rfl, by decide, by decide⟩
  | 7, _ => exact ⟨_, rfl, by decide, by decide⟩
section
variable {P : Program} {w : World} {K : PySem.W.Frag} {mg : Str → Option Value} {base : Heap} {a : Ad}
theorem ok_law_word (T : Txt K mg a) : FnOk P w K mg base CX0 2 a.f_law_word a.d_law_word ["state"] spWordL := by
  have G_law_take : FnOk P w K mg base CX0 1 _ _ _ _ := ok_law_take T
  refine T.F__law_word.ok sc_law_word (fun vs H Q E h => ?_) (fun cdv A outer s H vs Q E hr h => ?_)
  · obtain ⟨_, _, rfl, _⟩ := h; rfl
  · obtain ⟨st, g, rfl, hSt, q⟩ := h
    refine ⟨_, (pss_cons (ps_set (i := 1) sc_law_word.nd rfl (Or.inl rfl) (pe_call G_law_take (hr.mono (by decide)) rfl T.g__law_take T.k__law_take T.bd__law_take .nil pass0 (pa_cons (pv 0) (pa_cons pe_int pa_nil))))
      (pss_cons (ps_if (pt_cmpR op_lt (pv 1) pe_int (nomark _)) (pss_one (ps_ret (pe_op op_sub (pe_call G_law_take (hr.mono (by decide)) rfl T.g__law_take T.k__law_take T.bd__law_take .nil pass0 (pa_cons (pv 0) (pa_cons pe_int pa_nil))) pe_int))) pss_nil)
      (pss_cons (ps_if (pt_cmpR op_eq (pv 1) pe_int (nomark _)) (pss_one (ps_ret (pe_op op_sub (pe_call G_law_take (hr.mono (by decide)) rfl T.g__law_take T.k__law_take T.bd__law_take .nil pass0 (pa_cons (pv 0) (pa_cons pe_int pa_nil))) pe_int))) pss_nil)
      (pss_cons (ps_if (pt_cmpR op_eq (pv 1) pe_int (nomark _)) (pss_one (ps_ret (pe_op op_sub pe_int (pe_call G_law_take (hr.mono (by decide)) rfl T.g__law_take T.k__law_take T.bd__law_take .nil pass0 (pa_cons (pv 0) (pa_cons pe_int pa_nil)))))) pss_nil)
      (pss_cons (ps_if (pt_cmpR op_eq (pv 1) pe_int (nomark _)) (pss_one (ps_ret (pe_ix ix_list (pe_lst (pa_cons pe_int (pa_cons pe_int (pa_cons pe_int (pa_cons (pe_un un_neg pe_int) (pa_cons pe_int (pa_cons (pe_un un_neg pe_int) (pa_cons pe_int (pa_cons (pe_un un_neg pe_int) pa_nil))))))))) (pe_call G_law_take (hr.mono (by decide)) rfl T.g__law_take T.k__law_take T.bd__law_take .nil pass0 (pa_cons (pv 0) (pa_cons pe_int pa_nil))) (fun _ _ => rfl)))) pss_nil)
      (pss_one (ps_ret (pe_op op_sub (pe_op op_add (pe_op op_mul (pe_call G_law_take (hr.mono (by decide)) rfl T.g__law_take T.k__law_take T.bd__law_take .nil pass0 (pa_cons (pv 0) (pa_cons pe_int pa_nil))) pe_int) (pe_call G_law_take (hr.mono (by decide)) rfl T.g__law_take T.k__law_take T.bd__law_take .nil pass0 (pa_cons (pv 0) (pa_cons pe_int pa_nil)))) pe_int)))))))), ?_⟩
    refine ⟨_, rfl, st, g, 7, rfl, hSt, by decide, by decide, fun k H1 k0 k7 S1 F1 => ?_⟩
    refine ⟨_, rfl, _, _, rfl, rfl, _, rfl, ite3 (fun e => ?_) (fun e => ?_)⟩
    · refine ⟨_, rfl, st, g, 19, rfl, S1, by decide, by decide, fun v H2 v0 v1 S2 F2 => ⟨_, _, rfl, rfl, ?_⟩⟩
      exact q _ _ ⟨by omega, by omega⟩ S2 (fr2_trans F1 F2)
    refine ⟨_, rfl, rfl, _, rfl, ite3 (fun e => ?_) (fun e => ?_)⟩
    · refine ⟨_, rfl, st, g, 4, rfl, S1, by decide, by decide, fun v H2 v0 v1 S2 F2 => ⟨_, _, rfl, rfl, ?_⟩⟩
      exact q _ _ ⟨by omega, by omega⟩ S2 (fr2_trans F1 F2)
    refine ⟨_, rfl, rfl, _, rfl, ite3 (fun e => ?_) (fun e => ?_)⟩
    · refine ⟨_, rfl, st, g, 4, rfl, S1, by decide, by decide, fun v H2 v0 v1 S2 F2 => ⟨_, _, rfl, rfl, ?_⟩⟩
      exact q _ _ ⟨by omega, by omega⟩ S2 (fr2_trans F1 F2)
    refine ⟨_, rfl, rfl, _, rfl, ite3 (fun e => ?_) (fun e => ?_)⟩
    · refine ⟨_, rfl, _, rfl, _, rfl, (by show 8 ≤ sizeLine; decide), fun p np => ⟨_, rfl, st, g, 8, rfl, st_new S1 np, by decide, by decide, fun v H2 v0 v1 S2 F2 => ?_⟩⟩
      obtain ⟨j, rfl⟩ : ∃ j : Nat, v = (j : Int) := ⟨v.toNat, by omega⟩
      obtain ⟨x, hx, hw⟩ := w8 j (by omega)
      obtain ⟨_, _, _, _, h1, h2⟩ := id S1
      have hp := F2 p _ upd_same (ne_of_none h1 np).symm (ne_of_none h2 np).symm
      refine ⟨_, _, _, _, rfl, rfl, SqL.of hp, atI_nat hx, ?_⟩
      exact q _ _ hw S2 (fr2_trans (fr2_new F1 np) F2)
    · refine ⟨_, rfl, st, g, 65536, rfl, S1, by decide, by decide, fun v H2 v0 v1 S2 F2 => ⟨_, _, rfl, rfl, .inr (by decide), ?_⟩⟩
      refine ⟨_, rfl, st, g, 65536, rfl, S2, by decide, by decide, fun v' H3 v0' v1' S3 F3 => ⟨_, _, rfl, rfl, _, _, rfl, rfl, ?_⟩⟩
      exact q _ _ ⟨by omega, by omega⟩ S3 (fr2_trans (fr2_trans F1 F2) F3)
end

/-! ### the objects -/
theorem n1 : (("_taken" : Str) = "_inputs") = False := by simp only [eq_iff_iff, iff_false]; decide +kernel
theorem n2 : (("_rows" : Str) = "_inputs") = False := by simp only [eq_iff_iff, iff_false]; decide +kernel
theorem n3 : (("_rows" : Str) = "_taken") = False := by simp only [eq_iff_iff, iff_false]; decide +kernel
theorem n1' : (("_inputs" : Str) = "_taken") = False := by simp only [eq_iff_iff, iff_false]; decide +kernel
theorem n2' : (("_inputs" : Str) = "_rows") = False := by simp only [eq_iff_iff, iff_false]; decide +kernel
theorem n3' : (("_taken" : Str) = "_rows") = False := by simp only [eq_iff_iff, iff_false]; decide +kernel
theorem b1 : (("_taken" : Str) == "_inputs") = false := by decide +kernel
theorem b2 : (("_rows" : Str) == "_inputs") = false := by decide +kernel
theorem b3 : (("_rows" : Str) == "_taken") = false := by decide +kernel
def evf (l : Addr) (t : Int) (r : Addr) : List (Str × V) := [("_inputs", .ref l), ("_taken", .int t), ("_rows", .ref r)]
theorem ev_in (l t r) : (evf l t r).lookup ("_inputs" : Str) = some (V.ref l) := by simp [evf, List.lookup]
theorem ev_tk (l t r) : (evf l t r).lookup ("_taken" : Str) = some (V.int t) := by simp [evf, List.lookup, b1]
theorem ev_rw (l t r) : (evf l t r).lookup ("_rows" : Str) = some (V.ref r) := by simp [evf, List.lookup, b2, b3]
theorem ev_put (l t r) : (evf l t r).lookup ("put" : Str) = none := by
  have c1 : (("put" : Str) == "_inputs") = false := by decide +kernel
  have c2 : (("put" : Str) == "_taken") = false := by decide +kernel
  have c3 : (("put" : Str) == "_rows") = false := by decide +kernel
  simp [evf, List.lookup, c1, c2, c3]
theorem ev_get (l t r) : (evf l t r).lookup ("get" : Str) = none := by
  have c1 : (("get" : Str) == "_inputs") = false := by decide +kernel
  have c2 : (("get" : Str) == "_taken") = false := by decide +kernel
  have c3 : (("get" : Str) == "_rows") = false := by decide +kernel
  simp [evf, List.lookup, c1, c2, c3]
theorem ev_mk (l t r) : putF "_rows" (.ref r) (putF "_taken" (.int t) (putF "_inputs" (.ref l) [])) = evf l t r := by simp [putF, evf, n1', n2', n3']
theorem ev_st (l t r u) : putF "_taken" (.int u) (evf l t r) = evf l u r := by simp [putF, evf, n1']
def fuf (u : Int) : List (Str × V) := [("_left", .int u)]
theorem fu_lf (u) : (fuf u).lookup ("_left" : Str) = some (V.int u) := by simp [fuf, List.lookup]
theorem fu_tk (u) : (fuf u).lookup ("tick" : Str) = none := by
  have c1 : (("tick" : Str) == "_left") = false := by decide +kernel
  simp [fuf, List.lookup, c1]
theorem fu_st (u v) : putF "_left" (.int v) (fuf u) = fuf v := by simp [putF, fuf]
/-! ### the promises of the program -/
def spEvI (C : Addr) : Sp := fun vs H Q _ => ∃ (p dx l : Addr) (ys : List V), vs = [.ref p, .ref l] ∧ H p = some (.ins C dx []) ∧ H l = some (.lst ys) ∧
  ∀ (l' r' : Addr) (H' : Hp), H l' = none → H r' = none → l' ≠ r' → H' p = some (.ins C dx (evf l' 0 r')) → H' l' = some (.lst ys) → H' r' = some (.lst []) → (∀ b o, H b = some o → b ≠ p → H' b = some o) → Q .non H'
def spEvP (C : Addr) : Sp := fun vs H Q _ => ∃ (p dx l r : Addr) (t w : Int) (ys : List V), vs = [.ref p, .int w] ∧ H p = some (.ins C dx (evf l t r)) ∧ H r = some (.lst ys) ∧ ys.length ≤ 1000 ∧
  ∀ q, H q = none → Q .non (upd (upd H q (.tup [.str "put", .int w])) r (.lst (ys ++ [.ref q])))
def spEvG (C CN : Addr) : Sp := fun vs H Q E => ∃ (p dx l r : Addr) (t : Nat) (is : List Int) (ys : List V), vs = [.ref p] ∧ H p = some (.ins C dx (evf l (t : Int) r)) ∧ H l = some (.lst (is.map V.int)) ∧ H r = some (.lst ys) ∧ ys.length ≤ 1000 ∧ t ≤ is.length ∧
  (t = is.length → E (.ref CN) none H) ∧ (∀ w, is[t]? = some w → ∀ q, H q = none → Q (.int w) (upd (upd (upd H p (.ins C dx (evf l ((t : Int) + 1) r))) q (.tup [.str "get", .int w])) r (.lst (ys ++ [.ref q]))))
def spEvR (C : Addr) : Sp := fun vs H Q _ => ∃ (p dx l r : Addr) (t : Int) (ys : List V), vs = [.ref p] ∧ H p = some (.ins C dx (evf l t r)) ∧ H r = some (.lst ys) ∧ ∀ q, H q = none → Q (.ref q) (upd H q (.tup ys))
def spFuI (C : Addr) : Sp := fun vs H Q _ => ∃ (p dx : Addr) (u : Int), vs = [.ref p, .int u] ∧ H p = some (.ins C dx []) ∧ Q .non (upd H p (.ins C dx (fuf u)))
def spFuT (C CO : Addr) : Sp := fun vs H Q E => ∃ (p dx : Addr) (u : Int), vs = [.ref p] ∧ H p = some (.ins C dx (fuf u)) ∧ (u = 0 → E (.ref CO) none H) ∧ (u ≠ 0 → Q .non (upd H p (.ins C dx (fuf (u - 1)))))
def spFuR (C : Addr) : Sp := fun vs H Q _ => ∃ (p dx : Addr) (u : Int), vs = [.ref p] ∧ H p = some (.ins C dx (fuf u)) ∧ Q (.int u) H
def spLaw (K : PySem.W.Frag) : Sp := fun vs H Q _ => ∃ (a : Addr) (ns : List Int), vs = [.ref a] ∧ SqL K H a (ns.map V.int) ∧ ns.length ≤ 63 ∧ ∀ H', Q (.bl true) H'
section
variable {P : Program} {w : World} {K : PySem.W.Frag} {mg : Str → Option Value} {base : Heap} {a : Ad}
theorem ok_Events___init__ (T : Txt K mg a) : FnOk P w K mg base CX0 1 a.f_Events___init__ a.d_Events___init__ ["self", "inputs"] (spEvI a.C_Events) := by
  refine T.F_Events___init__.ok sc_Events___init__ (fun vs H Q E h => ?_) (fun cdv A outer s H vs Q E hr h => ?_)
  · obtain ⟨_, _, _, _, rfl, _⟩ := h; rfl
  · obtain ⟨p, dx, l, ys, rfl, hp, hl, q⟩ := h
    refine ⟨_, (pss_cons (ps_fld (pv 0) (pe_callTy call_list_of (by rfl) T.b_list (by decide +kernel) (pa_cons (pv 1) pa_nil)) rfl)
      (pss_cons (ps_fld (pv 0) pe_int rfl)
      (pss_one (ps_fld (pv 0) (pe_lst pa_nil) rfl)))), ?_⟩
    refine ⟨_, rfl, l, ys, rfl, .inl (SqL.of hl), fun l' nl => ?_⟩
    have npl : p ≠ l' := ne_of_none hp nl
    refine ⟨_, rfl, p, a.C_Events, dx, [], rfl, by rw [upd_ne npl]; exact hp, T.cl_Events, T.n_Events__inputs, (by show 0 < 1000; decide), ?_⟩
    refine ⟨_, rfl, p, a.C_Events, dx, _, rfl, upd_same, T.cl_Events, T.n_Events__taken, (by show 1 < 1000; decide), ?_⟩
    rw [upd_upd]
    refine ⟨by decide, fun r' nr => ?_⟩
    have npr : p ≠ r' := ne_of_none upd_same nr
    have nlr : l' ≠ r' := by
      have : upd (upd H l' (.lst ys)) p (.ins a.C_Events dx (putF "_taken" (.int 0) (putF "_inputs" (.ref l') []))) l' = some (.lst ys) := by rw [upd_ne npl.symm, upd_same]
      exact ne_of_none this nr
    have nr0 : H r' = none := by
      rw [upd_ne npr.symm, upd_ne nlr.symm] at nr
      exact nr
    refine ⟨_, rfl, p, a.C_Events, dx, _, rfl, by rw [upd_ne npr, upd_same], T.cl_Events, T.n_Events__rows, ?_, ?_⟩
    · simp [putF, n1']
    refine q l' r' _ nl nr0 nlr ?_ ?_ ?_ fun b o e nb => ?_
    · rw [upd_same]
      exact congrArg (fun z => some (HO.ins a.C_Events dx z)) (ev_mk l' 0 r')
    · rw [upd_ne npl.symm, upd_ne nlr, upd_ne npl.symm, upd_same]
    · rw [upd_ne npr.symm, upd_same]
    · rw [upd_ne nb, upd_ne (ne_of_none e nr0), upd_ne nb, upd_ne (ne_of_none e nl)]
      exact e
theorem ok_Events_put (T : Txt K mg a) : FnOk P w K mg base CX0 1 a.f_Events_put a.d_Events_put ["self", "word"] (spEvP a.C_Events) := by
  refine T.F_Events_put.ok sc_Events_put (fun vs H Q E h => ?_) (fun cdv A outer s H vs Q E hr h => ?_)
  · obtain ⟨_, _, _, _, _, _, _, rfl, _⟩ := h; rfl
  · obtain ⟨p, dx, l, r, t, w, ys, rfl, hp, hr', hy, q⟩ := h
    refine ⟨_, (pss_one (ps_expr (pe_bm PySem.F.plainAttrs_list PySem.F.slot_list_append PySem.F.type_list_append mt_append (pe_fld (pv 0) rfl) (pa_cons (pe_tup (pa_cons pe_str (pa_cons (pv 1) pa_nil))) pa_nil)))), ?_⟩
    refine ⟨_, rfl, p, a.C_Events, dx, _, _, rfl, hp, T.cl_Events, T.n_Events__rows, ev_rw _ _ _, .inl ⟨rfl, _, SqL.of hr'⟩, ?_⟩
    refine ⟨_, rfl, (by show 2 ≤ sizeLine; decide), fun z nz => ⟨r, ys, _, rfl, rfl, by rw [upd_ne (ne_of_none hr' nz)]; exact hr', small1000 hy, q z nz⟩⟩
theorem ok_Events_get (T : Txt K mg a) : FnOk P w K mg base (L2.CX P w) 3 a.f_Events_get a.d_Events_get ["self"] (spEvG a.C_Events a.C_NoInput) := by
  refine T.F_Events_get.okX sc_Events_get (fun vs H Q E h => ?_) (fun cdv A outer s H vs Q E hr h => ?_)
  · obtain ⟨_, _, _, _, _, _, _, rfl, _⟩ := h; rfl
  · obtain ⟨p, dx, l, r, t, is, ys, rfl, hp, hl, hr', hy, ht, qe, q⟩ := h
    refine ⟨_, (pss_cons (ps_if (pt_cmpR op_eq (pe_fld (pv 0) rfl) (pe_callB call_len_seq (by rfl) T.b_len (by decide +kernel) (pa_cons (pe_fld (pv 0) rfl) pa_nil)) (nomark _)) (pss_one (ps_raise rfl (takes_of rfl rfl rfl rfl) (pmk_own PySem.F.excBase_ValueError T.x_NoInput T.g_NoInput T.kC_NoInput (raises_own T.s1_NoInput T.ty_NoInput) rfl))) pss_nil)
      (pss_cons (ps_set (i := 1) sc_Events_get.nd rfl (Or.inl rfl) (pe_ix ix_list (pe_fld (pv 0) rfl) (pe_fld (pv 0) rfl) (fun _ _ => rfl)))
      (pss_cons (ps_fldaug (pv 0) pe_int in_add)
      (pss_cons (ps_expr (pe_bm PySem.F.plainAttrs_list PySem.F.slot_list_append PySem.F.type_list_append mt_append (pe_fld (pv 0) rfl) (pa_cons (pe_tup (pa_cons pe_str (pa_cons (pv 1) pa_nil))) pa_nil)))
      (pss_one (ps_ret (pv 1))))))), ?_⟩
    refine ⟨_, rfl, p, a.C_Events, dx, _, _, rfl, hp, T.cl_Events, T.n_Events__taken, ev_tk _ _ _, _, rfl, p, a.C_Events, dx, _, _, rfl, hp, T.cl_Events, T.n_Events__inputs, ev_in _ _ _, _, _, rfl, .inl (SqL.of hl), rfl, _, rfl, ite3 (fun e => ?_) (fun e => ?_)⟩
    · have e' : (t : Int) = (is.length : Int) := by simpa using e
      exact qe (by omega)
    · have hlt : t < is.length := by
        have : ¬ (t : Int) = (is.length : Int) := by simpa using e
        omega
      refine ⟨_, rfl, p, a.C_Events, dx, _, _, rfl, hp, T.cl_Events, T.n_Events__inputs, ev_in _ _ _, _, rfl, p, a.C_Events, dx, _, _, rfl, hp, T.cl_Events, T.n_Events__taken, ev_tk _ _ _, _, _, _, _, rfl, rfl, SqL.of hl, atI_nat (v := V.int is[t]) (by simp [hlt]), ?_⟩
      refine ⟨_, rfl, p, a.C_Events, dx, _, _, rfl, hp, T.cl_Events, T.n_Events__taken, ev_tk _ _ _, _, _, rfl, rfl, dx, _, hp, (by show 3 < 1000; decide), ?_⟩
      have e1 : putF "_taken" (V.int ((t : Int) + 1)) (evf l (t : Int) r) = evf l ((t : Int) + 1) r := ev_st l _ r _
      rw [e1]
      have npr : r ≠ p := ne_of hr' hp (by intro z; cases z)
      refine ⟨_, rfl, p, a.C_Events, dx, _, _, rfl, upd_same, T.cl_Events, T.n_Events__rows, ev_rw _ _ _, .inl ⟨rfl, _, SqL.of (by rw [upd_ne npr]; exact hr')⟩, ?_⟩
      refine ⟨_, rfl, (by show 2 ≤ sizeLine; decide), fun z nz => ?_⟩
      have nzp : z ≠ p := (ne_of_none upd_same nz).symm
      have nz0 : H z = none := by rw [upd_ne nzp] at nz; exact nz
      refine ⟨r, ys, _, rfl, rfl, by rw [upd_ne (ne_of_none hr' nz0), upd_ne npr]; exact hr', small1000 hy, _, rfl, ?_⟩
      exact q is[t] (by simp [hlt]) z nz0
theorem ok_Events_rows (T : Txt K mg a) : FnOk P w K mg base CX0 1 a.f_Events_rows a.d_Events_rows ["self"] (spEvR a.C_Events) := by
  refine T.F_Events_rows.ok sc_Events_rows (fun vs H Q E h => ?_) (fun cdv A outer s H vs Q E hr h => ?_)
  · obtain ⟨_, _, _, _, _, _, rfl, _⟩ := h; rfl
  · obtain ⟨p, dx, l, r, t, ys, rfl, hp, hr', q⟩ := h
    refine ⟨_, (pss_one (ps_ret (pe_callTy call_tuple_of (by rfl) T.b_tuple (by decide +kernel) (pa_cons (pe_fld (pv 0) rfl) pa_nil)))), ?_⟩
    exact ⟨_, rfl, p, a.C_Events, dx, _, _, rfl, hp, T.cl_Events, T.n_Events__rows, ev_rw _ _ _, r, ys, rfl, .inl ⟨SqL.of hr', fun z nz => q z nz⟩⟩
theorem ok_Fuel___init__ (T : Txt K mg a) : FnOk P w K mg base CX0 1 a.f_Fuel___init__ a.d_Fuel___init__ ["self", "units"] (spFuI a.C_Fuel) := by
  refine T.F_Fuel___init__.ok sc_Fuel___init__ (fun vs H Q E h => ?_) (fun cdv A outer s H vs Q E hr h => ?_)
  · obtain ⟨_, _, _, rfl, _⟩ := h; rfl
  · obtain ⟨p, dx, u, rfl, hp, q⟩ := h
    refine ⟨_, (pss_one (ps_fld (pv 0) (pv 1) rfl)), ?_⟩
    exact ⟨_, rfl, _, rfl, p, a.C_Fuel, dx, [], rfl, hp, T.cl_Fuel, T.n_Fuel__left, (by show 0 < 1000; decide), q⟩
theorem ok_Fuel_tick (T : Txt K mg a) : FnOk P w K mg base (L2.CX P w) 3 a.f_Fuel_tick a.d_Fuel_tick ["self"] (spFuT a.C_Fuel a.C_OutOfFuel) := by
  refine T.F_Fuel_tick.okX sc_Fuel_tick (fun vs H Q E h => ?_) (fun cdv A outer s H vs Q E hr h => ?_)
  · obtain ⟨_, _, _, rfl, _⟩ := h; rfl
  · obtain ⟨p, dx, u, rfl, hp, qe, q⟩ := h
    refine ⟨_, (pss_cons (ps_if (pt_cmpR op_eq (pe_fld (pv 0) rfl) pe_int (nomark _)) (pss_one (ps_raise rfl (takes_of rfl rfl rfl rfl) (pmk_own PySem.F.excBase_ValueError T.x_OutOfFuel T.g_OutOfFuel T.kC_OutOfFuel (raises_own T.s1_OutOfFuel T.ty_OutOfFuel) rfl))) pss_nil)
      (pss_one (ps_fldaug (pv 0) pe_int in_sub))), ?_⟩
    refine ⟨_, rfl, p, a.C_Fuel, dx, _, _, rfl, hp, T.cl_Fuel, T.n_Fuel__left, fu_lf _, rfl, _, rfl, ite3 (fun e => ?_) (fun e => ?_)⟩
    · exact qe (by simpa using e)
    · refine ⟨_, rfl, p, a.C_Fuel, dx, _, _, rfl, hp, T.cl_Fuel, T.n_Fuel__left, fu_lf _, _, _, rfl, rfl, dx, _, hp, (by show 1 < 1000; decide), ?_⟩
      have e1 : putF "_left" (V.int (u - 1)) (fuf u) = fuf (u - 1) := fu_st u _
      rw [e1]
      exact q (by simpa using e)
theorem ok_Fuel_remaining (T : Txt K mg a) : FnOk P w K mg base CX0 1 a.f_Fuel_remaining a.d_Fuel_remaining ["self"] (spFuR a.C_Fuel) := by
  refine T.F_Fuel_remaining.ok sc_Fuel_remaining (fun vs H Q E h => ?_) (fun cdv A outer s H vs Q E hr h => ?_)
  · obtain ⟨_, _, _, rfl, _⟩ := h; rfl
  · obtain ⟨p, dx, u, rfl, hp, q⟩ := h
    refine ⟨_, (pss_one (ps_ret (pe_fld (pv 0) rfl))), ?_⟩
    exact ⟨_, rfl, p, a.C_Fuel, dx, _, _, rfl, hp, T.cl_Fuel, T.n_Fuel__left, fu_lf _, q⟩
/-! ### _law_alike -/
def okD : Nat → PyData → Prop
  | _, .int _ => True
  | _, .str _ => True
  | n + 1, .tuple ds => (∀ d ∈ ds, okD n d) ∧ ds.length ≤ 1000000
  | _, _ => False
theorem dpall_len {H : Hp} : ∀ {vs : List V} {ds : List PyData}, DpAll K H vs ds → vs.length = ds.length
  | _, _, .nil => rfl
  | _, _, .cons _ r => congrArg (· + 1) (dpall_len r)
theorem dpall_get {H : Hp} : ∀ {vs : List V} {ds : List PyData} {i : Nat} {d : PyData}, DpAll K H vs ds → ds[i]? = some d → ∃ v, vs[i]? = some v ∧ Dp K H v d
  | _, _, _, _, .nil, e => by simp at e
  | _, _, 0, _, .cons h _, e => by
    obtain rfl := Option.some.inj e
    exact ⟨_, rfl, h⟩
  | _, _, i + 1, d, .cons _ r, e => by
    obtain ⟨v, h1, h2⟩ := dpall_get (i := i) (d := d) r (by simpa using e)
    exact ⟨v, by simpa using h1, h2⟩
def spAlike (K : PySem.W.Frag) (n : Nat) : Sp := fun vs H Q _ => ∃ (x y : V) (d : PyData), vs = [x, y] ∧ Dp K H x d ∧ Dp K H y d ∧ okD n d ∧ Q (.bl true) H
theorem ok_alike_aux (T : Txt K mg a) (n k : Nat) (sp' : Sp) (G_law_alike : FnOk P w K mg base CX0 k a.f_law_alike a.d_law_alike ["answer", "due"] sp') (hG : ∀ m, n = m + 1 → ∀ vs H Q E, spAlike K m vs H Q E → sp' vs H Q E) :
    FnOk P w K mg base CX0 (k + 1) a.f_law_alike a.d_law_alike ["answer", "due"] (spAlike K n) := by
  refine T.F__law_alike.ok sc_law_alike (fun vs H Q E h => ?_) (fun cdv A outer s H vs Q E hr h => ?_)
  · obtain ⟨_, _, _, rfl, _⟩ := h; rfl
  · obtain ⟨x, y, d, rfl, hx, hy, ho, q⟩ := h
    refine ⟨_, (pss_cons (ps_if (pt_val (pe_callB call_isi (by rfl) T.b_isinstance (by decide +kernel) (pa_cons (pv 1) (pa_cons (pe_bltn (v := .ty "tuple") (by rfl) T.b_tuple (by decide +kernel) rfl) pa_nil)))) (pss_cons (ps_if (PW.pt (pw_or (pt_not (pt_val (pe_callB call_isi (by rfl) T.b_isinstance (by decide +kernel) (pa_cons (pv 0) (pa_cons (pe_bltn (v := .ty "tuple") (by rfl) T.b_tuple (by decide +kernel) rfl) pa_nil))))) (pw_or1 (pt_cmpR op_ne (pe_callB call_len_seq (by rfl) T.b_len (by decide +kernel) (pa_cons (pv 0) pa_nil)) (pe_callB call_len_seq (by rfl) T.b_len (by decide +kernel) (pa_cons (pv 1) pa_nil)) (nomark _))))) (pss_one (ps_ret pe_bl)) pss_nil)
      (pss_cons (ps_for PassesOwn.never rfl (pi_range1 rfl T.b_range (pa_cons (pe_callB call_len_seq (by rfl) T.b_len (by decide +kernel) (pa_cons (pv 1) pa_nil)) pa_nil)) (pg_name (i := 2) sc_law_alike.nd rfl (Or.inl rfl)) (pss_one (ps_if (pt_not (pt_val (pe_call G_law_alike (hr.mono (Nat.le_refl _)) rfl T.g__law_alike T.k__law_alike T.bd__law_alike .nil pass0 (pa_cons (pe_ix ix_tup (pv 0) (pv 2) (fun _ _ => rfl)) (pa_cons (pe_ix ix_tup (pv 1) (pv 2) (fun _ _ => rfl)) pa_nil))))) (pss_one (ps_ret pe_bl)) pss_nil)))
      (pss_one (ps_ret pe_bl)))) pss_nil)
      (pss_cons (ps_if (pt_val (pe_callB call_isi (by rfl) T.b_isinstance (by decide +kernel) (pa_cons (pv 1) (pa_cons (pe_bltn (v := .ty "str") (by rfl) T.b_str (by decide +kernel) rfl) pa_nil)))) (pss_one (ps_ret (pe_and (pe_callB call_isi (by rfl) T.b_isinstance (by decide +kernel) (pa_cons (pv 0) (pa_cons (pe_bltn (v := .ty "str") (by rfl) T.b_str (by decide +kernel) rfl) pa_nil))) (pe_one (pe_cmpR op_eq (pv 0) (pv 1) (nomark _)))))) pss_nil)
      (pss_one (ps_ret (pe_and (pe_callB call_isi (by rfl) T.b_isinstance (by decide +kernel) (pa_cons (pv 0) (pa_cons (pe_bltn (v := .ty "int") (by rfl) T.b_int (by decide +kernel) rfl) pa_nil))) (pe_and (pe_not (pe_callB call_isi (by rfl) T.b_isinstance (by decide +kernel) (pa_cons (pv 0) (pa_cons (pe_bltn (v := .ty "bool") (by rfl) T.b_bool (by decide +kernel) rfl) pa_nil)))) (pe_one (pe_cmpR op_eq (pv 0) (pv 1) (nomark _))))))))), ?_⟩
    cases d with
    | int i =>
      cases hx; cases hy
      refine ⟨_, rfl, _, _, _, _, _, rfl, .ty _, .base (.int _), kit_ty (by decide +kernel : kitB "int" "tuple" = some false), _, rfl, iteF ?_⟩
      refine ⟨_, rfl, _, _, _, _, _, rfl, .ty _, .base (.int _), kit_ty (by decide +kernel : kitB "int" "str" = some false), _, rfl, iteF ?_⟩
      refine ⟨_, rfl, _, _, _, _, _, rfl, .ty _, .base (.int _), kit_ty (by decide +kernel : kitB "int" "int" = some true), _, rfl, iteT ?_⟩
      refine ⟨_, rfl, _, _, _, _, _, rfl, .ty _, .base (.int _), kit_ty (by decide +kernel : kitB "int" "bool" = some false), _, rfl, _, rfl, iteT ?_⟩
      refine ⟨_, rfl, _, rfl, rfl, ?_⟩
      rw [show decide (V.int i = V.int i) = true by simp]
      exact q
    | str z =>
      cases hx; cases hy
      refine ⟨_, rfl, _, _, _, _, _, rfl, .ty _, .base (.str _), kit_ty (by decide +kernel : kitB "str" "tuple" = some false), _, rfl, iteF ?_⟩
      refine ⟨_, rfl, _, _, _, _, _, rfl, .ty _, .base (.str _), kit_ty (by decide +kernel : kitB "str" "str" = some true), _, rfl, iteT ?_⟩
      refine ⟨_, rfl, _, _, _, _, _, rfl, .ty _, .base (.str _), kit_ty (by decide +kernel : kitB "str" "str" = some true), _, rfl, iteT ?_⟩
      refine ⟨_, rfl, _, rfl, rfl, ?_⟩
      rw [show decide (V.str z = V.str z) = true by simp]
      exact q
    | tuple ds =>
      cases n with
      | zero => exact ho.elim
      | succ m =>
        obtain ⟨ho, hz⟩ := ho
        cases hx with
        | @tup pa xs _ hxs dx =>
          cases hy with
          | @tup pb ys _ hys dy =>
            have lx := dpall_len dx
            have ly := dpall_len dy
            refine ⟨_, rfl, _, _, _, _, _, rfl, .ty _, tyx_tup hys, kit_ty (by decide +kernel : kitB "tuple" "tuple" = some true), _, rfl, iteT ?_⟩
            refine ⟨_, rfl, _, _, _, _, _, rfl, .ty _, tyx_tup hxs, kit_ty (by decide +kernel : kitB "tuple" "tuple" = some true), _, rfl, iteF ?_⟩
            refine ⟨_, rfl, _, _, rfl, .inr hxs, _, rfl, _, _, rfl, .inr hys, rfl, _, rfl, ?_⟩
            rw [show (!decide (V.int (xs.length : Int) = V.int (ys.length : Int))) = false by rw [lx, ly]; simp]
            refine iteF ?_
            refine ⟨_, rfl, _, _, rfl, .inr hys, _, rfl, by omega, by omega, for_range (lo := 0) (n := (ys.length : Int).toNat) (fun _ σ H' => H' = H ∧ ∃ u, σ = [some (.ref pa), some (.ref pb), u]) ⟨rfl, none, rfl⟩ ?_ ?_⟩
            · rintro i σ H' hi ⟨rfl, u, rfl⟩
              have hi' : i < ds.length := by omega
              obtain ⟨v1, e1, d1⟩ := dpall_get (i := i) (d := ds[i]) dx (by simp [hi'])
              obtain ⟨v2, e2, d2⟩ := dpall_get (i := i) (d := ds[i]) dy (by simp [hi'])
              have e0 : (0 : Int) + (i : Int) = (i : Int) := Int.zero_add _
              rw [e0]
              refine ⟨_, rfl, _, rfl, _, _, _, _, rfl, rfl, hxs, atI_nat e1, _, rfl, _, rfl, _, _, _, _, rfl, rfl, hys, atI_nat e2, ?_⟩
              exact hG m rfl _ _ _ _ ⟨v1, v2, ds[i], rfl, d1, d2, ho _ (List.getElem_mem hi'), _, rfl, iteF ⟨rfl, _, rfl⟩⟩
            · rintro σ H' ⟨rfl, u, rfl⟩
              exact q
    | none => exact (by cases n <;> exact ho.elim)
    | bool b => exact (by cases n <;> exact ho.elim)
    | list ds => exact (by cases n <;> exact ho.elim)
    | _ => exact (by cases n <;> exact ho.elim)
theorem ok_alike (T : Txt K mg a) : ∀ n, FnOk P w K mg base CX0 (n + 1) a.f_law_alike a.d_law_alike ["answer", "due"] (spAlike K n)
  | 0 => ok_alike_aux T 0 0 spNever ⟨fun _ _ _ _ h => h.elim, fun _ _ _ _ _ _ _ _ _ _ _ _ _ h => h.elim⟩ fun _ h => nomatch h
  | n + 1 => ok_alike_aux T (n + 1) (n + 1) (spAlike K n) (ok_alike T n) fun m h vs H Q E q => by
    obtain rfl : n = m := Nat.succ.inj h
    exact q
/-! ### the constants -/
def spSame : Sp := fun vs H Q _ => vs = [] ∧ ∀ H', Same H H' → Q (.bl true) H'
theorem dp_same {H H' : Hp} (s : Same H H') : ∀ {x : V} {d : PyData}, Dp K H x d → Dp K H' x d := by
  intro x d
  exact fun h => by
    revert s
    refine Dp.rec (K := K) (H := H) (motive_1 := fun x d _ => Same H H' → Dp K H' x d) (motive_2 := fun xs ds _ => Same H H' → DpAll K H' xs ds) ?_ ?_ ?_ ?_ ?_ ?_ ?_ ?_ h
    · exact fun _ => .non
    · exact fun b _ => .bl b
    · exact fun b _ => .int b
    · exact fun b _ => .str b
    · exact fun hs _ ih s => .lst (s.seq hs) (ih s)
    · exact fun hs _ ih s => .tup (seqT s hs) (ih s)
    · exact fun _ => .nil
    · exact fun _ _ i1 i2 s => .cons (i1 s) (i2 s)
theorem ok_law_constants (T : Txt K mg a) : FnOk P w K mg base CX0 4 a.f_law_constants a.d_law_constants [] spSame := by
  have G_law_alike : FnOk P w K mg base CX0 3 _ _ _ _ := ok_alike T 2
  refine T.F__law_constants.ok sc_law_constants (fun vs H Q E h => ?_) (fun cdv A outer s H vs Q E hr h => ?_)
  · obtain ⟨rfl, _⟩ := h; rfl
  · obtain ⟨rfl, q⟩ := h
    refine ⟨_, (pss_cons (ps_set (i := 0) sc_law_constants.nd rfl (Or.inl rfl) (pe_tup (pa_cons pe_str (pa_cons pe_str (pa_cons pe_str (pa_cons pe_str pa_nil))))))
      (pss_cons (ps_set (i := 1) sc_law_constants.nd rfl (Or.inl rfl) (pe_tup (pa_cons (pe_glob (v := .int (0)) rfl T.g_CONSTRAINT ⟨_, rfl⟩) (pa_cons (pe_glob (v := .int (1)) rfl T.g_PROGRAM ⟨_, rfl⟩) (pa_cons (pe_glob (v := .int (2)) rfl T.g_STORAGE ⟨_, rfl⟩) (pa_cons (pe_glob (v := .int (3)) rfl T.g_END ⟨_, rfl⟩) (pa_cons (pe_glob (v := .int (10)) rfl T.g_DEPTH_LIMIT ⟨_, rfl⟩) pa_nil)))))))
      (pss_cons (ps_set (i := 2) sc_law_constants.nd rfl (Or.inl rfl) (pe_tup (pa_cons (pe_glob (v := .ref a.c_NORMAL) rfl T.g_NORMAL rfl) (pa_cons (pe_glob (v := .ref a.c_EXHAUSTED) rfl T.g_EXHAUSTED rfl) (pa_cons (pe_glob (v := .ref a.c_FAULT) rfl T.g_FAULT rfl) (pa_cons (pe_glob (v := .ref a.c_STOPPED) rfl T.g_STOPPED rfl) pa_nil))))))
      (pss_cons (ps_if (PW.pt (pw_or (pt_not (pt_val (pe_call G_law_alike (hr.mono (by decide)) rfl T.g__law_alike T.k__law_alike T.bd__law_alike .nil pass0 (pa_cons (pe_glob (v := .ref a.c_PREDEFINED) rfl T.g_PREDEFINED rfl) (pa_cons (pv 0) pa_nil))))) (pw_or1 (pt_not (pt_val (pe_call G_law_alike (hr.mono (by decide)) rfl T.g__law_alike T.k__law_alike T.bd__law_alike .nil pass0 (pa_cons (pv 1) (pa_cons (pe_tup (pa_cons pe_int (pa_cons pe_int (pa_cons pe_int (pa_cons pe_int (pa_cons pe_int pa_nil)))))) pa_nil)))))))) (pss_one (ps_ret pe_bl)) pss_nil)
      (pss_one (ps_ret (pe_call G_law_alike (hr.mono (by decide)) rfl T.g__law_alike T.k__law_alike T.bd__law_alike .nil pass0 (pa_cons (pv 2) (pa_cons (pe_tup (pa_cons (pe_tup (pa_cons pe_str pa_nil)) (pa_cons (pe_tup (pa_cons pe_str pa_nil)) (pa_cons (pe_tup (pa_cons pe_str pa_nil)) (pa_cons (pe_tup (pa_cons pe_str pa_nil)) pa_nil))))) pa_nil))))))))), ?_⟩
    refine ⟨(by show 4 ≤ sizeLine; decide), fun p1 n1 => ⟨(by show 5 ≤ sizeLine; decide), fun p2 n2 => ⟨(by show 4 ≤ sizeLine; decide), fun p3 n3 => ?_⟩⟩⟩
    have k1 := sN (sN (Same.refl _) n2 (o := .tup [V.int 0, V.int 1, V.int 2, V.int 3, V.int 10])) n3 (o := .tup [V.ref a.c_NORMAL, V.ref a.c_EXHAUSTED, V.ref a.c_FAULT, V.ref a.c_STOPPED]) _ _ (upd_same (H := H) (a := p1) (o := .tup [V.str "constraint_error", V.str "program_error", V.str "storage_error", V.str "end_error"]))
    have k2 := sN (Same.refl _) n3 (o := .tup [V.ref a.c_NORMAL, V.ref a.c_EXHAUSTED, V.ref a.c_FAULT, V.ref a.c_STOPPED]) _ _ (upd_same (a := p2) (o := .tup [V.int 0, V.int 1, V.int 2, V.int 3, V.int 10]))
    have k3 := upd_same (H := upd (upd H p1 (.tup [V.str "constraint_error", V.str "program_error", V.str "storage_error", V.str "end_error"])) p2 (.tup [V.int 0, V.int 1, V.int 2, V.int 3, V.int 10])) (a := p3) (o := .tup [V.ref a.c_NORMAL, V.ref a.c_EXHAUSTED, V.ref a.c_FAULT, V.ref a.c_STOPPED])
    have s3 := sN (sN (sN (Same.refl H) n1 (o := .tup [V.str "constraint_error", V.str "program_error", V.str "storage_error", V.str "end_error"])) n2 (o := .tup [V.int 0, V.int 1, V.int 2, V.int 3, V.int 10])) n3 (o := .tup [V.ref a.c_NORMAL, V.ref a.c_EXHAUSTED, V.ref a.c_FAULT, V.ref a.c_STOPPED])
    generalize upd (upd (upd H p1 (.tup [V.str "constraint_error", V.str "program_error", V.str "storage_error", V.str "end_error"])) p2 (.tup [V.int 0, V.int 1, V.int 2, V.int 3, V.int 10])) p3 (.tup [V.ref a.c_NORMAL, V.ref a.c_EXHAUSTED, V.ref a.c_FAULT, V.ref a.c_STOPPED]) = H3 at *
    refine ⟨_, rfl, _, _, .tuple [.str "constraint_error", .str "program_error", .str "storage_error", .str "end_error"], rfl, .tup (T.q_PREDEFINED _) (.cons (.str _) (.cons (.str _) (.cons (.str _) (.cons (.str _) .nil)))), .tup (SqT.of k1) (.cons (.str _) (.cons (.str _) (.cons (.str _) (.cons (.str _) .nil)))), ⟨fun d hd => ?_, by decide⟩, _, rfl, iteF ?_⟩
    · simp at hd; rcases hd with rfl | rfl | rfl | rfl <;> exact True.intro
    refine ⟨_, rfl, (by show 5 ≤ sizeLine; decide), fun p4 n4 => ⟨_, _, .tuple [.int 0, .int 1, .int 2, .int 3, .int 10], rfl, .tup (SqT.of (by rw [upd_ne (ne_of_none k2 n4)]; exact k2)) (.cons (.int _) (.cons (.int _) (.cons (.int _) (.cons (.int _) (.cons (.int _) .nil))))), .tup (SqT.of upd_same) (.cons (.int _) (.cons (.int _) (.cons (.int _) (.cons (.int _) (.cons (.int _) .nil))))), ⟨fun d hd => ?_, by decide⟩, _, rfl, iteF ?_⟩⟩
    · simp at hd; rcases hd with rfl | rfl | rfl | rfl | rfl <;> exact True.intro
    refine ⟨_, rfl, (by show 1 ≤ sizeLine; decide), fun a1 m1 => ⟨(by show 1 ≤ sizeLine; decide), fun a2 m2 => ⟨(by show 1 ≤ sizeLine; decide), fun a3 m3 => ⟨(by show 1 ≤ sizeLine; decide), fun a4 m4 => ⟨(by show 4 ≤ sizeLine; decide), fun a5 m5 => ?_⟩⟩⟩⟩⟩
    have t0 := sN (Same.refl H3) n4 (o := .tup [V.int 0, V.int 1, V.int 2, V.int 3, V.int 10])
    have t1 := sN t0 m1 (o := .tup [V.str "normal"])
    have t2 := sN t1 m2 (o := .tup [V.str "exhausted"])
    have t3 := sN t2 m3 (o := .tup [V.str "fault"])
    have t4 := sN t3 m4 (o := .tup [V.str "stopped"])
    have t5 := sN t4 m5 (o := .tup [V.ref a1, V.ref a2, V.ref a3, V.ref a4])
    have c1 := sN (sN (sN (sN (Same.refl _) m2 (o := .tup [V.str "exhausted"])) m3 (o := .tup [V.str "fault"])) m4 (o := .tup [V.str "stopped"])) m5 (o := .tup [V.ref a1, V.ref a2, V.ref a3, V.ref a4]) _ _ upd_same
    have c2 := sN (sN (sN (Same.refl _) m3 (o := .tup [V.str "fault"])) m4 (o := .tup [V.str "stopped"])) m5 (o := .tup [V.ref a1, V.ref a2, V.ref a3, V.ref a4]) _ _ upd_same
    have c3 := sN (sN (Same.refl _) m4 (o := .tup [V.str "stopped"])) m5 (o := .tup [V.ref a1, V.ref a2, V.ref a3, V.ref a4]) _ _ upd_same
    have c4 := sN (Same.refl _) m5 (o := .tup [V.ref a1, V.ref a2, V.ref a3, V.ref a4]) _ _ upd_same
    refine ⟨_, _, .tuple [.tuple [.str "normal"], .tuple [.str "exhausted"], .tuple [.str "fault"], .tuple [.str "stopped"]], rfl,
      .tup (SqT.of (t5 _ _ k3)) (.cons (.tup (T.q_NORMAL _) (.cons (.str _) .nil)) (.cons (.tup (T.q_EXHAUSTED _) (.cons (.str _) .nil)) (.cons (.tup (T.q_FAULT _) (.cons (.str _) .nil)) (.cons (.tup (T.q_STOPPED _) (.cons (.str _) .nil)) .nil)))),
      .tup (SqT.of upd_same) (.cons (.tup (SqT.of c1) (.cons (.str _) .nil)) (.cons (.tup (SqT.of c2) (.cons (.str _) .nil)) (.cons (.tup (SqT.of c3) (.cons (.str _) .nil)) (.cons (.tup (SqT.of c4) (.cons (.str _) .nil)) .nil)))), ⟨fun d hd => ?_, by decide⟩, ?_⟩
    · simp at hd; rcases hd with rfl | rfl | rfl | rfl <;> exact ⟨fun d hd => by simp at hd; subst hd; exact True.intro, by decide⟩
    exact q _ (s3.trans t5)
/-! ### get, tick, inputs -/
def RowAt (H : Hp) (v : V) (k : Str) (x : Int) : Prop := ∃ q, v = .ref q ∧ H q = some (.tup [.str k, .int x])
def spLG (C : Addr) : Sp := fun vs H Q _ => ∃ (p dx l r pi dl : Addr) (t : Nat) (is : List Int) (ys ws : List V), vs = [.ref p, .ref pi, .int (t : Int), .ref dl] ∧ H p = some (.ins C dx (evf l (t : Int) r)) ∧ H l = some (.lst (is.map V.int)) ∧ H r = some (.lst ys) ∧ ys.length ≤ 1000 ∧ t ≤ is.length ∧
  H pi = some (.lst (is.map V.int)) ∧ H dl = some (.lst ws) ∧ ws.length ≤ 1000 ∧ dl ≠ r ∧ pi ≠ r ∧ pi ≠ dl ∧
  (t = is.length → ∀ H', Same H H' → Q (.bl true) H') ∧
  (∀ x, is[t]? = some x → ∀ (q q' : Addr) (H' : Hp), H q = none → H q' = none → H' p = some (.ins C dx (evf l ((t : Int) + 1) r)) → H' r = some (.lst (ys ++ [.ref q])) → H' dl = some (.lst (ws ++ [.ref q'])) →
    H' q = some (.tup [.str "get", .int x]) → H' q' = some (.tup [.str "get", .int x]) → (∀ b o, H b = some o → b ≠ p → b ≠ r → b ≠ dl → H' b = some o) → Q (.bl true) H')
def spLT (C : Addr) : Sp := fun vs H Q _ => ∃ (p dx : Addr) (u : Int), vs = [.ref p, .int u] ∧ H p = some (.ins C dx (fuf u)) ∧
  ∀ H', H' p = some (.ins C dx (fuf (if u = 0 then 0 else u - 1))) → (∀ b o, H b = some o → b ≠ p → H' b = some o) → Q (.bl true) H'
def spLI : Sp := fun vs H Q _ => ∃ (st g : Addr) (m : Int), vs = [.ref st, .int m] ∧ StAt H st g ∧ 0 ≤ m ∧ m ≤ 200 ∧ ∀ (D : Addr) (is : List Int) (H' : Hp), H D = none → H' D = some (.lst (is.map V.int)) → (is.length : Int) ≤ m → StAt H' st g → Fr2 st g H H' → Q (.ref D) H'
theorem ok_law_tick (T : Txt K mg a) : FnOk P w K mg base CX0 4 a.f_law_tick a.d_law_tick ["fuel", "units"] (spLT a.C_Fuel) := by
  have G_Fuel_tick : FnOk P w K mg base (L2.CX P w) 3 _ _ _ _ := ok_Fuel_tick T
  refine T.F__law_tick.ok sc_law_tick (fun vs H Q E h => ?_) (fun cdv A outer s H vs Q E hr h => ?_)
  · obtain ⟨_, _, _, rfl, _⟩ := h; rfl
  · obtain ⟨p, dx, u, rfl, hp, q⟩ := h
    refine ⟨_, (pss_cons (ps_set (i := 2) sc_law_tick.nd rfl (Or.inl rfl) (pe_lst pa_nil))
      (pss_cons (ps_set (i := 3) sc_law_tick.nd rfl (Or.inl rfl) pe_non)
      (pss_cons (ps_try_as (i := 4) rfl rfl sc_law_tick.nd rfl rfl ⟨rfl, by decide, Or.inl T.g_AdaError⟩ takes0 (fun W pn xe tk _ => (pss_one (ps_set (i := 3) sc_law_tick.nd rfl (Or.inl rfl) (pe_methE0 (pv 0) T.cl_Fuel T.m_Fuel_tick G_Fuel_tick (hr.mono (by decide)) T.bd_Fuel_tick (fun σ => passAt tk σ))))) (fun av oe cls dd pn hz hf => (pss_one (ps_set (i := 2) sc_law_tick.nd rfl (Or.inl rfl) (pe_lst (pa_cons (pe_callB (call_isEx hz hf) (by rfl) T.b_isinstance (by decide +kernel) (pa_cons (pv 4) (pa_cons (pe_glob (v := .ref a.C_OutOfFuel) rfl T.g_OutOfFuel rfl) pa_nil))) (pa_cons (pe_callB (call_isEx hz hf) (by rfl) T.b_isinstance (by decide +kernel) (pa_cons (pv 4) (pa_cons (pe_glob (v := .ref a.C_NoInput) rfl T.g_NoInput rfl) pa_nil))) (pa_cons (pe_callB (call_isEx hz hf) (by rfl) T.b_isinstance (by decide +kernel) (pa_cons (pv 4) (pa_cons (pe_bltn (v := .ty "ValueError") (by rfl) T.b_ValueError (by decide +kernel) rfl) pa_nil))) pa_nil))))))))
      (pss_cons (ps_if (pt_cmpR op_eq (pv 1) pe_int (nomark _)) (pss_one (ps_ret (pe_cmpR (op_eqD hr.units) (pv 2) (pe_lst (pa_cons pe_bl (pa_cons pe_bl (pa_cons pe_bl pa_nil)))) (nomark _)))) pss_nil)
      (pss_one (ps_ret (pe_and (pe_cmpR (op_eqD hr.units) (pv 2) (pe_lst pa_nil) (nomark _)) (pe_one (pe_cmpR op_isN (pv 3) pe_non (nomark _)))))))))), ?_⟩
    refine ⟨by decide, fun p1 n1 => ?_⟩
    have s1 := sN (Same.refl H) n1 (o := .lst [])
    have hp1 := s1 _ _ hp
    by_cases hu : u = 0
    · subst hu
      refine ⟨_, rfl, p, dx, _, rfl, hp1, fu_tk _, p, dx, 0, rfl, hp1, fun _ => ?_, fun h => (h rfl).elim⟩
      refine ⟨true, T.e_OutOfFuel_AdaError, fun _ av nav => ?_, fun z => nomatch z⟩
      refine ⟨_, rfl, _, rfl, rfl, T.ec_OutOfFuel, _, _, _, rfl, fun u hu => hu, T.i_OutOfFuel_OutOfFuel, ?_⟩
      refine ⟨_, rfl, _, rfl, rfl, T.ec_OutOfFuel, _, _, _, rfl, fun u hu => hu, T.i_OutOfFuel_NoInput, ?_⟩
      refine ⟨_, rfl, _, rfl, rfl, T.ec_OutOfFuel, _, _, _, rfl, fun u hu => hu, T.i_OutOfFuel_ValueError, (by show 3 ≤ sizeLine; decide), fun p2 n2 => ?_⟩
      refine ⟨_, rfl, rfl, _, rfl, iteT ?_⟩
      refine ⟨_, rfl, (by show 3 ≤ sizeLine; decide), fun p3 n3 => ?_⟩
      have hq : upd (upd (upd H p1 (.lst [])) p2 (.lst [.bl true, .bl false, .bl true])) p3 (.lst [.bl true, .bl false, .bl true]) p2 = some (.lst [.bl true, .bl false, .bl true]) := by rw [upd_ne (ne_of_none upd_same n3), upd_same]
      refine ⟨_, _, .lst (SqL.of hq) (.cons (.bl _) (.cons (.bl _) (.cons (.bl _) .nil))), .lst (SqL.of upd_same) (.cons (.bl _) (.cons (.bl _) (.cons (.bl _) .nil))), rfl, rfl, ?_⟩
      have ss := sN (sN s1 n2 (o := .lst [.bl true, .bl false, .bl true])) n3 (o := .lst [.bl true, .bl false, .bl true])
      exact q _ (ss _ _ hp) fun b o e _ => ss b o e
    · refine ⟨_, rfl, p, dx, _, rfl, hp1, fu_tk _, p, dx, u, rfl, hp1, fun h => (hu h).elim, fun _ => ?_⟩
      refine ⟨_, rfl, rfl, _, rfl, ?_⟩
      rw [show decide (V.int u = V.int 0) = false by simpa using hu]
      refine iteF ⟨_, rfl, by decide, fun p3 n3 => ?_⟩
      have npp : p1 ≠ p := (ne_of_none hp n1).symm
      have k1 : upd (upd (upd H p1 (.lst [])) p (.ins a.C_Fuel dx (fuf (u - 1)))) p3 (.lst []) p1 = some (.lst []) := by
        have : upd (upd H p1 (.lst [])) p (.ins a.C_Fuel dx (fuf (u - 1))) p1 = some (.lst []) := by rw [upd_ne npp, upd_same]
        rw [upd_ne (ne_of_none this n3)]; exact this
      refine ⟨_, _, .lst (SqL.of k1) .nil, .lst (SqL.of upd_same) .nil, rfl, rfl, _, rfl, iteT ⟨_, rfl, rfl, ?_⟩⟩
      refine q _ ?_ fun b o e nb => ?_
      · rw [if_neg hu, upd_ne (ne_of_none upd_same n3), upd_same]
      · have e1 : upd (upd H p1 (.lst [])) p (.ins a.C_Fuel dx (fuf (u - 1))) b = some o := by rw [upd_ne nb]; exact s1 b o e
        rw [upd_ne (ne_of_none e1 n3)]; exact e1
theorem ok_law_inputs (T : Txt K mg a) : FnOk P w K mg base CX0 3 a.f_law_inputs a.d_law_inputs ["state", "many"] spLI := by
  have G_law_take : FnOk P w K mg base CX0 1 _ _ _ _ := ok_law_take T
  have G_law_word : FnOk P w K mg base CX0 2 _ _ _ _ := ok_law_word T
  refine T.F__law_inputs.ok sc_law_inputs (fun vs H Q E h => ?_) (fun cdv A outer s H vs Q E hr h => ?_)
  · obtain ⟨_, _, _, rfl, _⟩ := h; rfl
  · obtain ⟨st, g, m, rfl, hS, m0, m1, q⟩ := h
    refine ⟨_, (pss_one (ps_ret (pe_lc (own := [("k", 2)]) (g := gName 2) rfl sc_law_inputs.nd (pi_range1 rfl T.b_range (pa_cons (pe_call G_law_take (hr.mono (by decide)) rfl T.g__law_take T.k__law_take T.bd__law_take .nil pass0 (pa_cons (pv 0) (pa_cons (pe_op op_add (pv 1) pe_int) pa_nil))) pa_nil)) (blkOk_by (own := [("k", 2)]) (N := ["state", "many", "k"]) (sc := defScope s_law_inputs) (by decide +kernel)) (fun _ _ _ _ _ => pg_name (i := 2) sc_law_inputs.nd rfl (Or.inl rfl)) (fun _ _ _ _ _ => pts_nil) (fun _ _ _ _ _ => (pe_call G_law_word (hr.mono (by decide)) rfl T.g__law_word T.k__law_word T.bd__law_word .nil pass0 (pa_cons (pv 0) pa_nil)))))), ?_⟩
    refine ⟨_, rfl, _, rfl, _, _, rfl, rfl, st, g, m + 1, rfl, hS, by omega, by omega, fun v H1 v0 v1 S1 F1 => ⟨v, rfl, by omega, by omega, fun D nD => ?_⟩⟩
    have nst : D ≠ st := by
      obtain ⟨_, _, _, _, h1, _⟩ := S1
      exact (ne_of_none h1 nD).symm
    have ng : D ≠ g := by
      obtain ⟨_, _, _, _, _, h2⟩ := S1
      exact (ne_of_none h2 nD).symm
    refine lc_range (lo := 0) (n := v.toNat) (fun i H' => ∃ is : List Int, is.length = i ∧ H' D = some (.lst (is.map V.int)) ∧ StAt H' st g ∧ Fr2 st g H H') ⟨[], rfl, upd_same, st_new S1 nD, fr2_new F1 nD⟩ ?_ ?_
    · rintro i H' hi ⟨is, hl, hD, S2, F2⟩
      refine ⟨rfl, ?_⟩
      refine ⟨_, rfl, st, g, rfl, S2, fun x H3 hx S3 F3 => ?_⟩
      have hD3 := F3 D _ hD nst ng
      refine ⟨_, hD3, small1000 (by simp; omega), is ++ [x], by simp [hl], by rw [upd_same, List.map_append]; rfl, ?_, ?_⟩
      · obtain ⟨gs, d, s2, s3, h1, h2⟩ := S3
        exact ⟨gs, d, s2, s3, by rw [upd_ne nst.symm]; exact h1, by rw [upd_ne ng.symm]; exact h2⟩
      · have nD0 : H D = none := by
          cases e : H D with
          | none => rfl
          | some o => rw [F1 D o e nst ng] at nD; cases nD
        exact fun b o e x1 x2 => by
          rw [upd_ne (ne_of_none e nD0)]
          exact fr2_trans F2 F3 b o e x1 x2
    · rintro H' ⟨is, hl, hD, S2, F2⟩
      refine q D is H' ?_ hD (by omega) S2 F2
      cases e : H D with
      | none => rfl
      | some o => rw [F1 D o e nst ng] at nD; cases nD
theorem ok_law_get (T : Txt K mg a) : FnOk P w K mg base CX0 4 a.f_law_get a.d_law_get ["events", "inputs", "taken", "due"] (spLG a.C_Events) := by
  have G_Events_get : FnOk P w K mg base (L2.CX P w) 3 _ _ _ _ := ok_Events_get T
  have G_law_alike : FnOk P w K mg base CX0 1 _ _ _ _ := ok_alike T 0
  refine T.F__law_get.ok sc_law_get (fun vs H Q E h => ?_) (fun cdv A outer s H vs Q E hr h => ?_)
  · obtain ⟨_, _, _, _, _, _, _, _, _, _, rfl, _⟩ := h; rfl
  · obtain ⟨p, dx, l, r, pi, dl, t, is, ys, ws, rfl, hp, hl, hr', hy, ht, hpi, hdl, hw, ndr, npr, npd, qe, q⟩ := h
    refine ⟨_, (pss_cons (ps_set (i := 4) sc_law_get.nd rfl (Or.inl rfl) pe_non)
      (pss_cons (ps_set (i := 5) sc_law_get.nd rfl (Or.inl rfl) (pe_lst pa_nil))
      (pss_cons (ps_try_as (i := 6) rfl rfl sc_law_get.nd rfl rfl ⟨rfl, by decide, Or.inl T.g_AdaError⟩ takes0 (fun W pn xe tk _ => (pss_one (ps_set (i := 4) sc_law_get.nd rfl (Or.inl rfl) (pe_methE0 (pv 0) T.cl_Events T.m_Events_get G_Events_get (hr.mono (by decide)) T.bd_Events_get (fun σ => passAt tk σ))))) (fun av oe cls dd pn hz hf => (pss_one (ps_set (i := 5) sc_law_get.nd rfl (Or.inl rfl) (pe_lst (pa_cons (pe_callB (call_isEx hz hf) (by rfl) T.b_isinstance (by decide +kernel) (pa_cons (pv 6) (pa_cons (pe_glob (v := .ref a.C_NoInput) rfl T.g_NoInput rfl) pa_nil))) (pa_cons (pe_callB (call_isEx hz hf) (by rfl) T.b_isinstance (by decide +kernel) (pa_cons (pv 6) (pa_cons (pe_glob (v := .ref a.C_OutOfFuel) rfl T.g_OutOfFuel rfl) pa_nil))) (pa_cons (pe_callB (call_isEx hz hf) (by rfl) T.b_isinstance (by decide +kernel) (pa_cons (pv 6) (pa_cons (pe_bltn (v := .ty "ValueError") (by rfl) T.b_ValueError (by decide +kernel) rfl) pa_nil))) pa_nil))))))))
      (pss_cons (ps_if (pt_cmpR op_eq (pv 2) (pe_callB call_len_seq (by rfl) T.b_len (by decide +kernel) (pa_cons (pv 1) pa_nil)) (nomark _)) (pss_one (ps_ret (pe_cmpR (op_eqD hr.units) (pv 5) (pe_lst (pa_cons pe_bl (pa_cons pe_bl (pa_cons pe_bl pa_nil)))) (nomark _)))) pss_nil)
      (pss_cons (ps_expr (pe_bm PySem.F.plainAttrs_list PySem.F.slot_list_append PySem.F.type_list_append mt_append (pv 3) (pa_cons (pe_tup (pa_cons pe_str (pa_cons (pe_ix ix_list (pv 1) (pv 2) (fun _ _ => rfl)) pa_nil))) pa_nil)))
      (pss_one (ps_ret (pe_and (pe_cmpR (op_eqD hr.units) (pv 5) (pe_lst pa_nil) (nomark _)) (pe_one (pe_call G_law_alike (hr.mono (by decide)) rfl T.g__law_alike T.k__law_alike T.bd__law_alike .nil pass0 (pa_cons (pv 4) (pa_cons (pe_ix ix_list (pv 1) (pv 2) (fun _ _ => rfl)) pa_nil)))))))))))), ?_⟩
    refine ⟨by decide, fun p1 n1 => ?_⟩
    have s1 := sN (Same.refl H) n1 (o := .lst [])
    refine ⟨_, rfl, p, dx, _, rfl, s1 _ _ hp, ev_get _ _ _, p, dx, l, r, t, is, ys, rfl, s1 _ _ hp, s1 _ _ hl, s1 _ _ hr', hy, ht, fun he => ?_, fun x hx z nz => ?_⟩
    · refine ⟨true, T.e_NoInput_AdaError, fun _ av nav => ?_, fun z => nomatch z⟩
      refine ⟨_, rfl, _, rfl, rfl, T.ec_NoInput, _, _, _, rfl, fun u hu => hu, T.i_NoInput_NoInput, ?_⟩
      refine ⟨_, rfl, _, rfl, rfl, T.ec_NoInput, _, _, _, rfl, fun u hu => hu, T.i_NoInput_OutOfFuel, ?_⟩
      refine ⟨_, rfl, _, rfl, rfl, T.ec_NoInput, _, _, _, rfl, fun u hu => hu, T.i_NoInput_ValueError, (by show 3 ≤ sizeLine; decide), fun p2 n2 => ?_⟩
      have s2 := sN s1 n2 (o := .lst [.bl true, .bl false, .bl true])
      refine ⟨_, rfl, _, rfl, _, _, rfl, .inl (SqL.of (s2 _ _ hpi)), rfl, _, rfl, ?_⟩
      rw [show decide (V.int (t : Int) = V.int ((is.map V.int).length : Int)) = true by simp [he]]
      refine iteT ⟨_, rfl, (by show 3 ≤ sizeLine; decide), fun p3 n3 => ?_⟩
      have hq : upd (upd (upd H p1 (.lst [])) p2 (.lst [.bl true, .bl false, .bl true])) p3 (.lst [.bl true, .bl false, .bl true]) p2 = some (.lst [.bl true, .bl false, .bl true]) := by rw [upd_ne (ne_of_none upd_same n3), upd_same]
      refine ⟨_, _, .lst (SqL.of hq) (.cons (.bl _) (.cons (.bl _) (.cons (.bl _) .nil))), .lst (SqL.of upd_same) (.cons (.bl _) (.cons (.bl _) (.cons (.bl _) .nil))), rfl, rfl, ?_⟩
      exact qe he _ (sN s2 n3)
    · have htl : t < is.length := (List.getElem?_eq_some_iff.mp hx).1
      have nzp1 : z ≠ p1 := (ne_of_none upd_same nz).symm
      have nz0 : H z = none := s1.free nz
      -- the heap behind get
      have e0 : ∀ b o, H b = some o → b ≠ p → b ≠ r → upd (upd (upd (upd H p1 (.lst [])) p (.ins a.C_Events dx (evf l ((t : Int) + 1) r))) z (.tup [.str "get", .int x])) r (.lst (ys ++ [.ref z])) b = some o := fun b o e n1' n2' => by
        rw [upd_ne n2', upd_ne (ne_of_none e nz0), upd_ne n1']; exact s1 b o e
      have nrp : r ≠ p := ne_of hr' hp (by intro z; cases z)
      have nrz : r ≠ z := ne_of_none hr' nz0
      have npz : p ≠ z := ne_of_none hp nz0
      have hz : upd (upd (upd (upd H p1 (.lst [])) p (.ins a.C_Events dx (evf l ((t : Int) + 1) r))) z (.tup [.str "get", .int x])) r (.lst (ys ++ [.ref z])) z = some (.tup [.str "get", .int x]) := by rw [upd_ne nrz.symm, upd_same]
      have hr2 : upd (upd (upd (upd H p1 (.lst [])) p (.ins a.C_Events dx (evf l ((t : Int) + 1) r))) z (.tup [.str "get", .int x])) r (.lst (ys ++ [.ref z])) r = some (.lst (ys ++ [.ref z])) := upd_same
      have hp2 : upd (upd (upd (upd H p1 (.lst [])) p (.ins a.C_Events dx (evf l ((t : Int) + 1) r))) z (.tup [.str "get", .int x])) r (.lst (ys ++ [.ref z])) p = some (.ins a.C_Events dx (evf l ((t : Int) + 1) r)) := by rw [upd_ne nrp.symm, upd_ne npz, upd_same]
      have h1 : upd (upd (upd (upd H p1 (.lst [])) p (.ins a.C_Events dx (evf l ((t : Int) + 1) r))) z (.tup [.str "get", .int x])) r (.lst (ys ++ [.ref z])) p1 = some (.lst []) := by
        rw [upd_ne (ne_of_none hr' n1).symm, upd_ne nzp1.symm, upd_ne (ne_of_none hp n1).symm, upd_same]
      generalize upd (upd (upd (upd H p1 (.lst [])) p (.ins a.C_Events dx (evf l ((t : Int) + 1) r))) z (.tup [.str "get", .int x])) r (.lst (ys ++ [.ref z])) = H2 at *
      have hpi2 := e0 pi _ hpi (ne_of hpi hp (by intro z; cases z)) npr
      have hdl2 := e0 dl _ hdl (ne_of hdl hp (by intro z; cases z)) ndr
      refine ⟨_, rfl, _, rfl, _, _, rfl, .inl (SqL.of hpi2), rfl, _, rfl, ?_⟩
      rw [show decide (V.int (t : Int) = V.int ((is.map V.int).length : Int)) = false by simp; omega]
      refine iteF ⟨_, rfl, .inl ⟨rfl, _, SqL.of hdl2⟩, ?_⟩
      refine ⟨_, rfl, _, rfl, _, _, _, _, rfl, rfl, SqL.of hpi2, atI_nat (v := V.int x) (by simp [hx]), (by show 2 ≤ sizeLine; decide), fun z2 nz2 => ⟨dl, ws, _, rfl, rfl, by rw [upd_ne (ne_of_none hdl2 nz2)]; exact hdl2, small1000 hw, ?_⟩⟩
      -- behind the append
      have ndz2 : dl ≠ z2 := ne_of_none hdl2 nz2
      have k3 : ∀ b o, H2 b = some o → b ≠ dl → upd (upd H2 z2 (.tup [.str "get", .int x])) dl (.lst (ws ++ [.ref z2])) b = some o := fun b o e nb => by
        rw [upd_ne nb, upd_ne (ne_of_none e nz2)]; exact e
      have hdl3 : upd (upd H2 z2 (.tup [.str "get", .int x])) dl (.lst (ws ++ [.ref z2])) dl = some (.lst (ws ++ [.ref z2])) := upd_same
      have hz3 : upd (upd H2 z2 (.tup [.str "get", .int x])) dl (.lst (ws ++ [.ref z2])) z2 = some (.tup [.str "get", .int x]) := by rw [upd_ne ndz2.symm, upd_same]
      have nz20 : H z2 = none := by
        cases e : H z2 with
        | none => rfl
        | some o =>
          by_cases c1 : z2 = p
          · rw [c1, hp2] at nz2; cases nz2
          · by_cases c2 : z2 = r
            · rw [c2, hr2] at nz2; cases nz2
            · rw [e0 z2 o e c1 c2] at nz2; cases nz2
      generalize upd (upd H2 z2 (.tup [.str "get", .int x])) dl (.lst (ws ++ [.ref z2])) = H3 at *
      have d1 : p1 ≠ dl := (ne_of_none hdl n1).symm
      refine ⟨_, rfl, by decide, fun p4 n4 => ?_⟩
      have h1' := k3 _ _ h1 d1
      have s4 := sN (Same.refl H3) n4 (o := .lst [])
      refine ⟨_, _, .lst (SqL.of (s4 _ _ h1')) .nil, .lst (SqL.of upd_same) .nil, rfl, rfl, _, rfl, iteT ?_⟩
      have hpi3 := k3 _ _ hpi2 npd
      refine ⟨_, rfl, _, rfl, _, rfl, _, _, _, _, rfl, rfl, SqL.of (s4 _ _ hpi3), atI_nat (v := V.int x) (by simp [hx]), _, _, .int x, rfl, .int x, .int x, (by unfold okD; exact True.intro), ?_⟩
      refine q x hx z z2 _ nz0 nz20 (s4 _ _ (k3 _ _ hp2 (ne_of hp hdl (by intro z; cases z)))) (s4 _ _ (k3 _ _ hr2 ndr.symm)) (s4 _ _ hdl3) (s4 _ _ (k3 _ _ hz (ne_of_none hdl nz0).symm)) (s4 _ _ hz3) fun b o e m1 m2 m3 => s4 _ _ (k3 _ _ (e0 b o e m1 m2) m3)
/-! ### rows -/
inductive Rw (H : Hp) : List V → List PyData → Prop where
  | nil : Rw H [] []
  | cons {q : Addr} {k : Str} {x : Int} {vs : List V} {ds : List PyData} (h : H q = some (.tup [.str k, .int x])) (r : Rw H vs ds) : Rw H (.ref q :: vs) (.tuple [.str k, .int x] :: ds)
theorem Rw.snoc {H : Hp} {q : Addr} {k : Str} {x : Int} (h : H q = some (.tup [.str k, .int x])) : ∀ {vs : List V} {ds : List PyData}, Rw H vs ds → Rw H (vs ++ [.ref q]) (ds ++ [.tuple [.str k, .int x]])
  | _, _, .nil => .cons h .nil
  | _, _, .cons h0 r => .cons h0 (Rw.snoc h r)
/-- tuples stay -/
def KT (H H' : Hp) : Prop := ∀ b xs, H b = some (.tup xs) → H' b = some (.tup xs)
theorem Rw.keep {H H' : Hp} (k : KT H H') : ∀ {vs : List V} {ds : List PyData}, Rw H vs ds → Rw H' vs ds
  | _, _, .nil => .nil
  | _, _, .cons h r => .cons (k _ _ h) (r.keep k)
theorem Rw.len {H : Hp} : ∀ {vs : List V} {ds : List PyData}, Rw H vs ds → vs.length = ds.length
  | _, _, .nil => rfl
  | _, _, .cons _ r => congrArg (· + 1) r.len
theorem Rw.all {H : Hp} : ∀ {vs : List V} {ds : List PyData}, Rw H vs ds → DpAll K H vs ds
  | _, _, .nil => .nil
  | _, _, .cons h r => .cons (.tup (SqT.of h) (.cons (.str _) (.cons (.int _) .nil))) r.all
theorem Rw.ok {H : Hp} : ∀ {vs : List V} {ds : List PyData}, Rw H vs ds → ∀ d ∈ ds, okD 1 d
  | _, _, .nil, _, h => by simp at h
  | _, _, .cons _ r, d, h => by
    rcases List.mem_cons.mp h with rfl | h
    · exact ⟨fun d hd => by simp at hd; rcases hd with rfl | rfl <;> exact True.intro, by simp⟩
    · exact r.ok d h
/-! ### the state of the law -/
structure Lay where
  st : Addr
  g : Addr
  tk : Addr
  un : Addr
  kp : Addr
  e0 : Addr
  e1 : Addr
  r0 : Addr
  r1 : Addr
  f0 : Addr
  f1 : Addr
  d0 : Addr
  d1 : Addr
  l0 : Addr
  l1 : Addr
  i0 : Addr
  i1 : Addr
  x0 : Addr
  x1 : Addr
  y0 : Addr
  y1 : Addr
  ev : Addr
  fl : Addr
  ii : Addr
  dd : Addr
def Lay.mut (L : Lay) : List Addr := [L.st, L.g, L.tk, L.un, L.kp, L.e0, L.e1, L.r0, L.r1, L.f0, L.f1, L.d0, L.d1]
/-- nothing but S turns -/
def Frm (S : List Addr) (H H' : Hp) : Prop := ∀ b o, H b = some o → b ∉ S → H' b = some o
structure Cst (L : Lay) (j0 j1 : List Int) (H : Hp) : Prop where
  hev : H L.ev = some (.lst [.ref L.e0, .ref L.e1])
  hfl : H L.fl = some (.lst [.ref L.f0, .ref L.f1])
  hii : H L.ii = some (.lst [.ref L.i0, .ref L.i1])
  hdd : H L.dd = some (.lst [.ref L.d0, .ref L.d1])
  hi0 : H L.i0 = some (.lst (j0.map V.int))
  hi1 : H L.i1 = some (.lst (j1.map V.int))
  hl0 : H L.l0 = some (.lst (j0.map V.int))
  hl1 : H L.l1 = some (.lst (j1.map V.int))
  out : ∀ x ∈ [L.ev, L.fl, L.ii, L.dd, L.i0, L.i1, L.l0, L.l1], x ∉ L.mut
theorem Cst.keep {L : Lay} {j0 j1 : List Int} {S : List Addr} {H H' : Hp} (c : Cst L j0 j1 H) (f : Frm S H H') (hs : ∀ x ∈ S, x ∈ L.mut) : Cst L j0 j1 H' := by
  have k : ∀ x ∈ [L.ev, L.fl, L.ii, L.dd, L.i0, L.i1, L.l0, L.l1], ∀ o, H x = some o → H' x = some o := fun x hx o e => f x o e fun q => c.out x hx (hs x q)
  exact ⟨k _ (by simp) _ c.hev, k _ (by simp) _ c.hfl, k _ (by simp) _ c.hii, k _ (by simp) _ c.hdd, k _ (by simp) _ c.hi0, k _ (by simp) _ c.hi1, k _ (by simp) _ c.hl0, k _ (by simp) _ c.hl1, c.out⟩
def KeptAt (L : Lay) (H : Hp) (v : V) : Prop := ∃ (q t1 t2 : Addr) (v1 v2 : List V) (ds : List PyData), v = .ref q ∧ q ∉ L.mut ∧ H q = some (.lst [.ref t1, .ref t2]) ∧ H t1 = some (.tup v1) ∧ H t2 = some (.tup v2) ∧ Rw H v1 ds ∧ Rw H v2 ds ∧ ds.length ≤ 1000
structure SInv (a : Ad) (L : Lay) (j0 j1 : List Int) (n : Nat) (t0 t1 : Nat) (u0 u1 : Int) (a0 a1 w0 w1 : List V) (ks : List V) (H : Hp) : Prop where
  nd : L.mut.Nodup
  stA : StAt H L.st L.g
  he0 : H L.e0 = some (.ins a.C_Events L.x0 (evf L.l0 (t0 : Int) L.r0))
  he1 : H L.e1 = some (.ins a.C_Events L.x1 (evf L.l1 (t1 : Int) L.r1))
  hr0 : H L.r0 = some (.lst a0)
  hr1 : H L.r1 = some (.lst a1)
  hd0 : H L.d0 = some (.lst w0)
  hd1 : H L.d1 = some (.lst w1)
  hf0 : H L.f0 = some (.ins a.C_Fuel L.y0 (fuf u0))
  hf1 : H L.f1 = some (.ins a.C_Fuel L.y1 (fuf u1))
  htk : H L.tk = some (.lst [.int (t0 : Int), .int (t1 : Int)])
  hun : H L.un = some (.lst [.int u0, .int u1])
  hkp : H L.kp = some (.lst ks)
  row0 : ∃ ds, Rw H a0 ds ∧ Rw H w0 ds ∧ ds.length ≤ n
  row1 : ∃ ds, Rw H a1 ds ∧ Rw H w1 ds ∧ ds.length ≤ n
  kept : ∀ v ∈ ks, KeptAt L H v
  cst : Cst L j0 j1 H
  ht0 : t0 ≤ j0.length
  ht1 : t1 ≤ j1.length
  hu0 : 0 ≤ u0
  hu1 : 0 ≤ u1
  hn : n ≤ 100
  hks : ks.length ≤ n
/-- no tuple stands at a mutable place -/
theorem SInv.notup {a : Ad} {L : Lay} {j0 j1 : List Int} {n t0 t1 : Nat} {u0 u1 : Int} {a0 a1 w0 w1 ks : List V} {H : Hp} (I : SInv a L j0 j1 n t0 t1 u0 u1 a0 a1 w0 w1 ks H) {b : Addr} {xs : List V} (e : H b = some (.tup xs)) : b ∉ L.mut := by
  intro hb
  have h := I.stA
  obtain ⟨gs, d, s2, s3, h1, h2⟩ := h
  simp only [Lay.mut, List.mem_cons, List.not_mem_nil, or_false] at hb
  rcases hb with rfl | rfl | rfl | rfl | rfl | rfl | rfl | rfl | rfl | rfl | rfl | rfl | rfl
  · rw [h1] at e; cases e
  · rw [h2] at e; cases e
  · rw [I.htk] at e; cases e
  · rw [I.hun] at e; cases e
  · rw [I.hkp] at e; cases e
  · rw [I.he0] at e; cases e
  · rw [I.he1] at e; cases e
  · rw [I.hr0] at e; cases e
  · rw [I.hr1] at e; cases e
  · rw [I.hf0] at e; cases e
  · rw [I.hf1] at e; cases e
  · rw [I.hd0] at e; cases e
  · rw [I.hd1] at e; cases e
theorem SInv.kt {a : Ad} {L : Lay} {j0 j1 : List Int} {n t0 t1 : Nat} {u0 u1 : Int} {a0 a1 w0 w1 ks : List V} {S : List Addr} {H H' : Hp} (I : SInv a L j0 j1 n t0 t1 u0 u1 a0 a1 w0 w1 ks H) (f : Frm S H H') (hs : ∀ x ∈ S, x ∈ L.mut) : KT H H' :=
  fun b xs e => f b _ e fun q => I.notup e (hs b q)
theorem SInv.keptK {a : Ad} {L : Lay} {j0 j1 : List Int} {n t0 t1 : Nat} {u0 u1 : Int} {a0 a1 w0 w1 ks : List V} {S : List Addr} {H H' : Hp} (I : SInv a L j0 j1 n t0 t1 u0 u1 a0 a1 w0 w1 ks H) (f : Frm S H H') (hs : ∀ x ∈ S, x ∈ L.mut) : ∀ v ∈ ks, KeptAt L H' v := by
  intro v hv
  obtain ⟨q, p1, p2, v1, v2, ds, e, hq, h1, h2, h3, r1, r2, hl⟩ := I.kept v hv
  have k := I.kt f hs
  exact ⟨q, p1, p2, v1, v2, ds, e, hq, f q _ h1 fun z => hq (hs q z), k _ _ h2, k _ _ h3, r1.keep k, r2.keep k, hl⟩
theorem frm_fr2 {L : Lay} {H H' : Hp} (f : Fr2 L.st L.g H H') : Frm [L.st, L.g] H H' := fun b o e h => f b o e (fun z => h (by simp [z])) (fun z => h (by simp [z]))
theorem SInv.draw {a : Ad} {L : Lay} {j0 j1 : List Int} {n t0 t1 : Nat} {u0 u1 : Int} {a0 a1 w0 w1 ks : List V} {H H' : Hp} (I : SInv a L j0 j1 n t0 t1 u0 u1 a0 a1 w0 w1 ks H) (s : StAt H' L.st L.g) (f : Fr2 L.st L.g H H') :
    SInv a L j0 j1 n t0 t1 u0 u1 a0 a1 w0 w1 ks H' := by
  have nd := I.nd
  have hs : ∀ x ∈ [L.st, L.g], x ∈ L.mut := fun x hx => by simp at hx; rcases hx with rfl | rfl <;> simp [Lay.mut]
  have F := frm_fr2 f
  have k := I.kt F hs
  have z : ∀ x ∈ [L.tk, L.un, L.kp, L.e0, L.e1, L.r0, L.r1, L.f0, L.f1, L.d0, L.d1], x ∉ [L.st, L.g] := fun x hx hx2 => by
    simp only [Lay.mut, List.nodup_cons] at nd
    obtain ⟨h1, h2, _⟩ := nd
    rcases List.mem_cons.mp hx2 with rfl | hx2
    · exact h1 (List.mem_cons_of_mem _ hx)
    · obtain rfl : x = L.g := by simpa using hx2
      exact h2 hx
  have y : ∀ x ∈ [L.tk, L.un, L.kp, L.e0, L.e1, L.r0, L.r1, L.f0, L.f1, L.d0, L.d1], ∀ o, H x = some o → H' x = some o := fun x hx o e => F x o e (z x hx)
  obtain ⟨ds0, q1, q2, q3⟩ := I.row0
  obtain ⟨ds1, p1, p2, p3⟩ := I.row1
  exact ⟨I.nd, s, y _ (by simp) _ I.he0, y _ (by simp) _ I.he1, y _ (by simp) _ I.hr0, y _ (by simp) _ I.hr1, y _ (by simp) _ I.hd0, y _ (by simp) _ I.hd1, y _ (by simp) _ I.hf0, y _ (by simp) _ I.hf1, y _ (by simp) _ I.htk, y _ (by simp) _ I.hun, y _ (by simp) _ I.hkp,
    ⟨ds0, q1.keep k, q2.keep k, q3⟩, ⟨ds1, p1.keep k, p2.keep k, p3⟩, I.keptK F hs, I.cst.keep F hs, I.ht0, I.ht1, I.hu0, I.hu1, I.hn, I.hks⟩
/-- a change at some mutable places, none of st and g -/
theorem SInv.turn {a : Ad} {L : Lay} {j0 j1 : List Int} {n t0 t1 : Nat} {u0 u1 : Int} {a0 a1 w0 w1 ks : List V} {S : List Addr} {H H' : Hp} (I : SInv a L j0 j1 n t0 t1 u0 u1 a0 a1 w0 w1 ks H) (f : Frm S H H') (hs : ∀ x ∈ S, x ∈ L.mut) (h1 : L.st ∉ S) (h2 : L.g ∉ S)
    {t0' t1' : Nat} {u0' u1' : Int} {a0' a1' w0' w1' ks' : List V} {n' : Nat}
    (he0 : H' L.e0 = some (.ins a.C_Events L.x0 (evf L.l0 (t0' : Int) L.r0))) (he1 : H' L.e1 = some (.ins a.C_Events L.x1 (evf L.l1 (t1' : Int) L.r1)))
    (hr0 : H' L.r0 = some (.lst a0')) (hr1 : H' L.r1 = some (.lst a1')) (hd0 : H' L.d0 = some (.lst w0')) (hd1 : H' L.d1 = some (.lst w1'))
    (hf0 : H' L.f0 = some (.ins a.C_Fuel L.y0 (fuf u0'))) (hf1 : H' L.f1 = some (.ins a.C_Fuel L.y1 (fuf u1')))
    (htk : H' L.tk = some (.lst [.int (t0' : Int), .int (t1' : Int)])) (hun : H' L.un = some (.lst [.int u0', .int u1'])) (hkp : H' L.kp = some (.lst ks'))
    (row0 : ∃ ds, Rw H' a0' ds ∧ Rw H' w0' ds ∧ ds.length ≤ n') (row1 : ∃ ds, Rw H' a1' ds ∧ Rw H' w1' ds ∧ ds.length ≤ n') (kept : ∀ v ∈ ks', KeptAt L H' v)
    (ht0 : t0' ≤ j0.length) (ht1 : t1' ≤ j1.length) (hu0 : 0 ≤ u0') (hu1 : 0 ≤ u1') (hn : n' ≤ 100) (hks : ks'.length ≤ n') : SInv a L j0 j1 n' t0' t1' u0' u1' a0' a1' w0' w1' ks' H' := by
  refine ⟨I.nd, ?_, he0, he1, hr0, hr1, hd0, hd1, hf0, hf1, htk, hun, hkp, row0, row1, kept, I.cst.keep f hs, ht0, ht1, hu0, hu1, hn, hks⟩
  obtain ⟨gs, d, s2, s3, k1, k2⟩ := I.stA
  exact ⟨gs, d, s2, s3, f _ _ k1 h1, f _ _ k2 h2⟩
theorem rw_mono {n n' : Nat} {H : Hp} {x y : List V} (h : n ≤ n') (r : ∃ ds, Rw H x ds ∧ Rw H y ds ∧ ds.length ≤ n) : ∃ ds, Rw H x ds ∧ Rw H y ds ∧ ds.length ≤ n' := by
  obtain ⟨ds, r1, r2, r3⟩ := r
  exact ⟨ds, r1, r2, Nat.le_trans r3 h⟩
theorem rw_keep {n : Nat} {H H' : Hp} {x y : List V} (k : KT H H') (r : ∃ ds, Rw H x ds ∧ Rw H y ds ∧ ds.length ≤ n) : ∃ ds, Rw H' x ds ∧ Rw H' y ds ∧ ds.length ≤ n := by
  obtain ⟨ds, r1, r2, r3⟩ := r
  exact ⟨ds, r1.keep k, r2.keep k, r3⟩
theorem rw_snoc {n : Nat} {H H' : Hp} {x y : List V} {q q' : Addr} {k : Str} {z : Int} (kt : KT H H') (h : H' q = some (.tup [.str k, .int z])) (h' : H' q' = some (.tup [.str k, .int z])) (r : ∃ ds, Rw H x ds ∧ Rw H y ds ∧ ds.length ≤ n) :
    ∃ ds, Rw H' (x ++ [.ref q]) ds ∧ Rw H' (y ++ [.ref q']) ds ∧ ds.length ≤ n + 1 := by
  obtain ⟨ds, r1, r2, r3⟩ := r
  exact ⟨_, Rw.snoc h (r1.keep kt), Rw.snoc h' (r2.keep kt), by simp; omega⟩


theorem neq {L : Lay} (nd : L.mut.Nodup) (i j : Nat) {x y : Addr} (hx : L.mut[i]? = some x := by rfl) (hy : L.mut[j]? = some y := by rfl) (h : i ≠ j := by decide) : x ≠ y := by
  intro e
  subst e
  obtain ⟨h1, e1⟩ := List.getElem?_eq_some_iff.mp hx
  obtain ⟨h2, e2⟩ := List.getElem?_eq_some_iff.mp hy
  exact h ((List.getElem_inj nd).mp (e1.trans e2.symm))
theorem nin1 {x a : Addr} (h : x ≠ a) : x ∉ [a] := by simpa using h
theorem nin2 {x a b : Addr} (h : x ≠ a) (h2 : x ≠ b) : x ∉ [a, b] := by simp [h, h2]
theorem nin3 {x a b c : Addr} (h : x ≠ a) (h2 : x ≠ b) (h3 : x ≠ c) : x ∉ [a, b, c] := by simp [h, h2, h3]
theorem nin4 {x a b c d : Addr} (h : x ≠ a) (h2 : x ≠ b) (h3 : x ≠ c) (h4 : x ≠ d) : x ∉ [a, b, c, d] := by simp [h, h2, h3, h4]
section
variable {a : Ad} {L : Lay} {j0 j1 : List Int} {n t0 t1 : Nat} {u0 u1 : Int} {a0 a1 w0 w1 ks : List V} {H H' : Hp}
theorem SInv.same (I : SInv a L j0 j1 n t0 t1 u0 u1 a0 a1 w0 w1 ks H) (s : Same H H') : SInv a L j0 j1 n t0 t1 u0 u1 a0 a1 w0 w1 ks H' := by
  have f : Frm [] H H' := fun b o e _ => s b o e
  have hs : ∀ x ∈ ([] : List Addr), x ∈ L.mut := fun x h => by simp at h
  have k := I.kt f hs
  exact I.turn f hs (by simp) (by simp) (s _ _ I.he0) (s _ _ I.he1) (s _ _ I.hr0) (s _ _ I.hr1) (s _ _ I.hd0) (s _ _ I.hd1) (s _ _ I.hf0) (s _ _ I.hf1) (s _ _ I.htk) (s _ _ I.hun) (s _ _ I.hkp) (rw_keep k I.row0) (rw_keep k I.row1) (I.keptK f hs) I.ht0 I.ht1 I.hu0 I.hu1 I.hn I.hks
theorem SInv.more (I : SInv a L j0 j1 n t0 t1 u0 u1 a0 a1 w0 w1 ks H) (h : n + 1 ≤ 100) : SInv a L j0 j1 (n + 1) t0 t1 u0 u1 a0 a1 w0 w1 ks H :=
  ⟨I.nd, I.stA, I.he0, I.he1, I.hr0, I.hr1, I.hd0, I.hd1, I.hf0, I.hf1, I.htk, I.hun, I.hkp, rw_mono (Nat.le_succ n) I.row0, rw_mono (Nat.le_succ n) I.row1, I.kept, I.cst, I.ht0, I.ht1, I.hu0, I.hu1, h, Nat.le_trans I.hks (Nat.le_succ n)⟩
theorem SInv.alive (I : SInv a L j0 j1 n t0 t1 u0 u1 a0 a1 w0 w1 ks H) {x : Addr} (hb : x ∈ L.mut) : ∃ o, H x = some o := by
  obtain ⟨gs, d, s2, s3, h1, h2⟩ := I.stA
  simp only [Lay.mut, List.mem_cons, List.not_mem_nil, or_false] at hb
  rcases hb with rfl | rfl | rfl | rfl | rfl | rfl | rfl | rfl | rfl | rfl | rfl | rfl | rfl
  · exact ⟨_, h1⟩
  · exact ⟨_, h2⟩
  · exact ⟨_, I.htk⟩
  · exact ⟨_, I.hun⟩
  · exact ⟨_, I.hkp⟩
  · exact ⟨_, I.he0⟩
  · exact ⟨_, I.he1⟩
  · exact ⟨_, I.hr0⟩
  · exact ⟨_, I.hr1⟩
  · exact ⟨_, I.hf0⟩
  · exact ⟨_, I.hf1⟩
  · exact ⟨_, I.hd0⟩
  · exact ⟨_, I.hd1⟩
theorem SInv.kept_new (I : SInv a L j0 j1 n t0 t1 u0 u1 a0 a1 w0 w1 ks H) (hk : ks.length + 1 ≤ n) {q p1 p2 : Addr} {v1 v2 : List V} {ds : List PyData} (hq : q ∉ L.mut) (h1 : H q = some (.lst [.ref p1, .ref p2])) (h2 : H p1 = some (.tup v1)) (h3 : H p2 = some (.tup v2)) (r1 : Rw H v1 ds) (r2 : Rw H v2 ds) (hl : ds.length ≤ 1000) :
    SInv a L j0 j1 n t0 t1 u0 u1 a0 a1 w0 w1 (ks ++ [.ref q]) (upd H L.kp (.lst (ks ++ [.ref q]))) := by
  have f : Frm [L.kp] H (upd H L.kp (.lst (ks ++ [.ref q]))) := fun b o e h => by rw [upd_ne (by simpa using h)]; exact e
  have hs : ∀ x ∈ [L.kp], x ∈ L.mut := fun x h => by obtain rfl : x = L.kp := by simpa using h
                                                     simp [Lay.mut]
  have k := I.kt f hs
  have nd := I.nd
  have kk := I.keptK f hs
  have m1 : q ≠ L.kp := fun e => hq (by rw [e]; simp [Lay.mut])
  have mt : ∀ {b : Addr} {xs : List V}, H b = some (.tup xs) → upd H L.kp (.lst (ks ++ [.ref q])) b = some (.tup xs) := fun e => k _ _ e
  refine I.turn f hs (nin1 (neq nd 0 4)) (nin1 (neq nd 1 4)) (f _ _ I.he0 (nin1 (neq nd 5 4))) (f _ _ I.he1 (nin1 (neq nd 6 4))) (f _ _ I.hr0 (nin1 (neq nd 7 4))) (f _ _ I.hr1 (nin1 (neq nd 8 4))) (f _ _ I.hd0 (nin1 (neq nd 11 4))) (f _ _ I.hd1 (nin1 (neq nd 12 4))) (f _ _ I.hf0 (nin1 (neq nd 9 4))) (f _ _ I.hf1 (nin1 (neq nd 10 4)))
    (f _ _ I.htk (nin1 (neq nd 2 4))) (f _ _ I.hun (nin1 (neq nd 3 4))) upd_same (rw_keep k I.row0) (rw_keep k I.row1) (fun v hv => ?_) I.ht0 I.ht1 I.hu0 I.hu1 I.hn (by simp; omega)
  rcases List.mem_append.mp hv with hv | hv
  · exact kk v hv
  · obtain rfl : v = .ref q := by simpa using hv
    exact ⟨q, p1, p2, v1, v2, ds, rfl, hq, f _ _ h1 (nin1 m1), mt h2, mt h3, r1.keep k, r2.keep k, hl⟩

theorem SInv.put0 (I : SInv a L j0 j1 n t0 t1 u0 u1 a0 a1 w0 w1 ks H) (hn : n + 1 ≤ 100) {z z' : Addr} {x : Int} (nz : H z = none) (nz' : upd (upd H z (.tup [.str "put", .int x])) L.r0 (.lst (a0 ++ [.ref z])) z' = none) :
    SInv a L j0 j1 (n + 1) t0 t1 u0 u1 (a0 ++ [.ref z]) a1 (w0 ++ [.ref z']) w1 ks (upd (upd (upd (upd H z (.tup [.str "put", .int x])) L.r0 (.lst (a0 ++ [.ref z]))) z' (.tup [.str "put", .int x])) L.d0 (.lst (w0 ++ [.ref z']))) := by
  have nd := I.nd
  have f1 : Frm [L.r0, L.d0] H (upd (upd H z (.tup [.str "put", .int x])) L.r0 (.lst (a0 ++ [.ref z]))) := fun b o e h => by
    rw [upd_ne (fun e' => h (by simp [e'])), upd_ne (ne_of_none e nz)]; exact e
  have f : Frm [L.r0, L.d0] H (upd (upd (upd (upd H z (.tup [.str "put", .int x])) L.r0 (.lst (a0 ++ [.ref z]))) z' (.tup [.str "put", .int x])) L.d0 (.lst (w0 ++ [.ref z']))) := fun b o e h => by
    rw [upd_ne (fun e' => h (by simp [e'])), upd_ne (ne_of_none (f1 b o e h) nz')]; exact f1 b o e h
  have hs : ∀ x ∈ [L.r0, L.d0], x ∈ L.mut := fun x h => by simp at h; rcases h with rfl | rfl <;> simp [Lay.mut]
  have k := I.kt f hs
  have nrz : L.r0 ≠ z := ne_of_none I.hr0 nz
  have hz : upd (upd H z (.tup [.str "put", .int x])) L.r0 (.lst (a0 ++ [.ref z])) z = some (.tup [.str "put", .int x]) := by rw [upd_ne nrz.symm, upd_same]
  have hr : upd (upd H z (.tup [.str "put", .int x])) L.r0 (.lst (a0 ++ [.ref z])) L.r0 = some (.lst (a0 ++ [.ref z])) := upd_same
  have nrz' : L.r0 ≠ z' := ne_of_none hr nz'
  have nzz' : z ≠ z' := ne_of_none hz nz'
  have hd : upd (upd H z (.tup [.str "put", .int x])) L.r0 (.lst (a0 ++ [.ref z])) L.d0 = some (.lst w0) := by rw [upd_ne (neq nd 11 7), upd_ne (ne_of_none I.hd0 nz)]; exact I.hd0
  have ndz' : L.d0 ≠ z' := ne_of_none hd nz'
  have ndz : L.d0 ≠ z := ne_of_none I.hd0 nz
  have hr2 : upd (upd (upd (upd H z (.tup [.str "put", .int x])) L.r0 (.lst (a0 ++ [.ref z]))) z' (.tup [.str "put", .int x])) L.d0 (.lst (w0 ++ [.ref z'])) L.r0 = some (.lst (a0 ++ [.ref z])) := by rw [upd_ne (neq nd 7 11), upd_ne nrz', upd_same]
  have hz2 : upd (upd (upd (upd H z (.tup [.str "put", .int x])) L.r0 (.lst (a0 ++ [.ref z]))) z' (.tup [.str "put", .int x])) L.d0 (.lst (w0 ++ [.ref z'])) z = some (.tup [.str "put", .int x]) := by rw [upd_ne ndz.symm, upd_ne nzz']; exact hz
  have hz3 : upd (upd (upd (upd H z (.tup [.str "put", .int x])) L.r0 (.lst (a0 ++ [.ref z]))) z' (.tup [.str "put", .int x])) L.d0 (.lst (w0 ++ [.ref z'])) z' = some (.tup [.str "put", .int x]) := by rw [upd_ne ndz'.symm, upd_same]
  have hd2 : upd (upd (upd (upd H z (.tup [.str "put", .int x])) L.r0 (.lst (a0 ++ [.ref z]))) z' (.tup [.str "put", .int x])) L.d0 (.lst (w0 ++ [.ref z'])) L.d0 = some (.lst (w0 ++ [.ref z'])) := upd_same
  generalize upd (upd (upd (upd H z (.tup [.str "put", .int x])) L.r0 (.lst (a0 ++ [.ref z]))) z' (.tup [.str "put", .int x])) L.d0 (.lst (w0 ++ [.ref z'])) = H2 at *
  have y : ∀ i x o, L.mut[i]? = some x → i ≠ 7 → i ≠ 11 → H x = some o → H2 x = some o := fun i x o hx n1 n2 e => f _ _ e (nin2 (neq nd i 7 hx rfl n1) (neq nd i 11 hx rfl n2))
  have m := rw_snoc k hz2 hz3 I.row0
  have m' := rw_mono (Nat.le_succ n) (rw_keep k I.row1)
  exact I.turn f hs (nin2 (neq nd 0 7) (neq nd 0 11)) (nin2 (neq nd 1 7) (neq nd 1 11)) (y 5 _ _ rfl (by decide) (by decide) I.he0) (y 6 _ _ rfl (by decide) (by decide) I.he1) hr2 (y 8 _ _ rfl (by decide) (by decide) I.hr1) hd2 (y 12 _ _ rfl (by decide) (by decide) I.hd1)
    (y 9 _ _ rfl (by decide) (by decide) I.hf0) (y 10 _ _ rfl (by decide) (by decide) I.hf1) (y 2 _ _ rfl (by decide) (by decide) I.htk) (y 3 _ _ rfl (by decide) (by decide) I.hun) (y 4 _ _ rfl (by decide) (by decide) I.hkp) m m' (I.keptK f hs) I.ht0 I.ht1 I.hu0 I.hu1 hn (Nat.le_trans I.hks (Nat.le_succ n))
theorem SInv.get0 (I : SInv a L j0 j1 n t0 t1 u0 u1 a0 a1 w0 w1 ks H) (hn : n + 1 ≤ 100) (ht : t0 < j0.length) {q q' : Addr} {x : Int} {H1 : Hp} (g1 : H1 L.e0 = some (.ins a.C_Events L.x0 (evf L.l0 ((t0 : Int) + 1) L.r0))) (g2 : H1 L.r0 = some (.lst (a0 ++ [.ref q]))) (g3 : H1 L.d0 = some (.lst (w0 ++ [.ref q'])))
    (g4 : H1 q = some (.tup [.str "get", .int x])) (g5 : H1 q' = some (.tup [.str "get", .int x])) (g6 : ∀ b o, H b = some o → b ≠ L.e0 → b ≠ L.r0 → b ≠ L.d0 → H1 b = some o) :
    SInv a L j0 j1 (n + 1) (t0 + 1) t1 u0 u1 (a0 ++ [.ref q]) a1 (w0 ++ [.ref q']) w1 ks (upd H1 L.tk (.lst [.int ((t0 : Int) + 1), .int (t1 : Int)])) := by
  have nd := I.nd
  have f : Frm [L.e0, L.r0, L.d0, L.tk] H (upd H1 L.tk (.lst [.int ((t0 : Int) + 1), .int (t1 : Int)])) := fun b o e h => by
    simp only [List.mem_cons, List.not_mem_nil, or_false, not_or] at h
    obtain ⟨h1, h2, h3, h4⟩ := h
    rw [upd_ne h4]; exact g6 b o e h1 h2 h3
  have hs : ∀ x ∈ [L.e0, L.r0, L.d0, L.tk], x ∈ L.mut := fun x h => by simp at h; rcases h with rfl | rfl | rfl | rfl <;> simp [Lay.mut]
  have k := I.kt f hs
  have nq : q ≠ L.tk := fun e => by
    rw [e] at g4
    rw [g6 L.tk _ I.htk (neq nd 2 5) (neq nd 2 7) (neq nd 2 11)] at g4
    cases g4
  have nq' : q' ≠ L.tk := fun e => by
    rw [e] at g5
    rw [g6 L.tk _ I.htk (neq nd 2 5) (neq nd 2 7) (neq nd 2 11)] at g5
    cases g5
  have k1 : upd H1 L.tk (.lst [.int ((t0 : Int) + 1), .int (t1 : Int)]) L.e0 = some (.ins a.C_Events L.x0 (evf L.l0 ((t0 + 1 : Nat) : Int) L.r0)) := by rw [upd_ne (neq nd 5 2)]; exact g1
  have k2 : upd H1 L.tk (.lst [.int ((t0 : Int) + 1), .int (t1 : Int)]) L.r0 = some (.lst (a0 ++ [.ref q])) := by rw [upd_ne (neq nd 7 2)]; exact g2
  have k3 : upd H1 L.tk (.lst [.int ((t0 : Int) + 1), .int (t1 : Int)]) L.d0 = some (.lst (w0 ++ [.ref q'])) := by rw [upd_ne (neq nd 11 2)]; exact g3
  have k4 : upd H1 L.tk (.lst [.int ((t0 : Int) + 1), .int (t1 : Int)]) q = some (.tup [.str "get", .int x]) := by rw [upd_ne nq]; exact g4
  have k5 : upd H1 L.tk (.lst [.int ((t0 : Int) + 1), .int (t1 : Int)]) q' = some (.tup [.str "get", .int x]) := by rw [upd_ne nq']; exact g5
  have k6 : upd H1 L.tk (.lst [.int ((t0 : Int) + 1), .int (t1 : Int)]) L.tk = some (.lst [.int ((t0 : Int) + 1), .int (t1 : Int)]) := upd_same
  generalize upd H1 L.tk (.lst [.int ((t0 : Int) + 1), .int (t1 : Int)]) = H2 at *
  have y : ∀ i x o, L.mut[i]? = some x → i ≠ 5 → i ≠ 7 → i ≠ 11 → i ≠ 2 → H x = some o → H2 x = some o := fun i x o hx n0 n1 n2 n3 e => f _ _ e (nin4 (neq nd i 5 hx rfl n0) (neq nd i 7 hx rfl n1) (neq nd i 11 hx rfl n2) (neq nd i 2 hx rfl n3))
  have m := rw_snoc k k4 k5 I.row0
  have m' := rw_mono (Nat.le_succ n) (rw_keep k I.row1)
  exact I.turn f hs (nin4 (neq nd 0 5) (neq nd 0 7) (neq nd 0 11) (neq nd 0 2)) (nin4 (neq nd 1 5) (neq nd 1 7) (neq nd 1 11) (neq nd 1 2)) k1 (y 6 _ _ rfl (by decide) (by decide) (by decide) (by decide) I.he1) k2 (y 8 _ _ rfl (by decide) (by decide) (by decide) (by decide) I.hr1) k3 (y 12 _ _ rfl (by decide) (by decide) (by decide) (by decide) I.hd1)
    (y 9 _ _ rfl (by decide) (by decide) (by decide) (by decide) I.hf0) (y 10 _ _ rfl (by decide) (by decide) (by decide) (by decide) I.hf1) k6 (y 3 _ _ rfl (by decide) (by decide) (by decide) (by decide) I.hun) (y 4 _ _ rfl (by decide) (by decide) (by decide) (by decide) I.hkp) m m' (I.keptK f hs) ht I.ht1 I.hu0 I.hu1 hn (Nat.le_trans I.hks (Nat.le_succ n))
theorem SInv.tick0 (I : SInv a L j0 j1 n t0 t1 u0 u1 a0 a1 w0 w1 ks H) {H1 : Hp} (g1 : H1 L.f0 = some (.ins a.C_Fuel L.y0 (fuf (if u0 = 0 then 0 else u0 - 1)))) (g6 : ∀ b o, H b = some o → b ≠ L.f0 → H1 b = some o) :
    SInv a L j0 j1 n t0 t1 (if u0 = 0 then 0 else u0 - 1) u1 a0 a1 w0 w1 ks (upd H1 L.un (.lst [.int (if u0 = 0 then 0 else u0 - 1), .int u1])) := by
  have nd := I.nd
  have f : Frm [L.f0, L.un] H (upd H1 L.un (.lst [.int (if u0 = 0 then 0 else u0 - 1), .int u1])) := fun b o e h => by
    simp only [List.mem_cons, List.not_mem_nil, or_false, not_or] at h
    obtain ⟨h1, h2⟩ := h
    rw [upd_ne h2]; exact g6 b o e h1
  have hs : ∀ x ∈ [L.f0, L.un], x ∈ L.mut := fun x h => by simp at h; rcases h with rfl | rfl <;> simp [Lay.mut]
  have k := I.kt f hs
  have k1 : upd H1 L.un (.lst [.int (if u0 = 0 then 0 else u0 - 1), .int u1]) L.f0 = some (.ins a.C_Fuel L.y0 (fuf (if u0 = 0 then 0 else u0 - 1))) := by rw [upd_ne (neq nd 9 3)]; exact g1
  have k6 : upd H1 L.un (.lst [.int (if u0 = 0 then 0 else u0 - 1), .int u1]) L.un = some (.lst [.int (if u0 = 0 then 0 else u0 - 1), .int u1]) := upd_same
  generalize upd H1 L.un (.lst [.int (if u0 = 0 then 0 else u0 - 1), .int u1]) = H2 at *
  have y : ∀ i x o, L.mut[i]? = some x → i ≠ 9 → i ≠ 3 → H x = some o → H2 x = some o := fun i x o hx n0 n1 e => f _ _ e (nin2 (neq nd i 9 hx rfl n0) (neq nd i 3 hx rfl n1))
  have hu : 0 ≤ (if u0 = 0 then 0 else u0 - 1) := by have := I.hu0; split <;> omega
  exact I.turn f hs (nin2 (neq nd 0 9) (neq nd 0 3)) (nin2 (neq nd 1 9) (neq nd 1 3)) (y 5 _ _ rfl (by decide) (by decide) I.he0) (y 6 _ _ rfl (by decide) (by decide) I.he1) (y 7 _ _ rfl (by decide) (by decide) I.hr0) (y 8 _ _ rfl (by decide) (by decide) I.hr1) (y 11 _ _ rfl (by decide) (by decide) I.hd0) (y 12 _ _ rfl (by decide) (by decide) I.hd1)
    k1 (y 10 _ _ rfl (by decide) (by decide) I.hf1) (y 2 _ _ rfl (by decide) (by decide) I.htk) k6 (y 4 _ _ rfl (by decide) (by decide) I.hkp) (rw_keep k I.row0) (rw_keep k I.row1) (I.keptK f hs) I.ht0 I.ht1 hu I.hu1 I.hn I.hks

theorem SInv.put1 (I : SInv a L j0 j1 n t0 t1 u0 u1 a0 a1 w0 w1 ks H) (hn : n + 1 ≤ 100) {z z' : Addr} {x : Int} (nz : H z = none) (nz' : upd (upd H z (.tup [.str "put", .int x])) L.r1 (.lst (a1 ++ [.ref z])) z' = none) :
    SInv a L j0 j1 (n + 1) t0 t1 u0 u1 a0 (a1 ++ [.ref z]) w0 (w1 ++ [.ref z']) ks (upd (upd (upd (upd H z (.tup [.str "put", .int x])) L.r1 (.lst (a1 ++ [.ref z]))) z' (.tup [.str "put", .int x])) L.d1 (.lst (w1 ++ [.ref z']))) := by
  have nd := I.nd
  have f1 : Frm [L.r1, L.d1] H (upd (upd H z (.tup [.str "put", .int x])) L.r1 (.lst (a1 ++ [.ref z]))) := fun b o e h => by
    rw [upd_ne (fun e' => h (by simp [e'])), upd_ne (ne_of_none e nz)]; exact e
  have f : Frm [L.r1, L.d1] H (upd (upd (upd (upd H z (.tup [.str "put", .int x])) L.r1 (.lst (a1 ++ [.ref z]))) z' (.tup [.str "put", .int x])) L.d1 (.lst (w1 ++ [.ref z']))) := fun b o e h => by
    rw [upd_ne (fun e' => h (by simp [e'])), upd_ne (ne_of_none (f1 b o e h) nz')]; exact f1 b o e h
  have hs : ∀ x ∈ [L.r1, L.d1], x ∈ L.mut := fun x h => by simp at h; rcases h with rfl | rfl <;> simp [Lay.mut]
  have k := I.kt f hs
  have nrz : L.r1 ≠ z := ne_of_none I.hr1 nz
  have hz : upd (upd H z (.tup [.str "put", .int x])) L.r1 (.lst (a1 ++ [.ref z])) z = some (.tup [.str "put", .int x]) := by rw [upd_ne nrz.symm, upd_same]
  have hr : upd (upd H z (.tup [.str "put", .int x])) L.r1 (.lst (a1 ++ [.ref z])) L.r1 = some (.lst (a1 ++ [.ref z])) := upd_same
  have nrz' : L.r1 ≠ z' := ne_of_none hr nz'
  have nzz' : z ≠ z' := ne_of_none hz nz'
  have hd : upd (upd H z (.tup [.str "put", .int x])) L.r1 (.lst (a1 ++ [.ref z])) L.d1 = some (.lst w1) := by rw [upd_ne (neq nd 12 8), upd_ne (ne_of_none I.hd1 nz)]; exact I.hd1
  have ndz' : L.d1 ≠ z' := ne_of_none hd nz'
  have ndz : L.d1 ≠ z := ne_of_none I.hd1 nz
  have hr2 : upd (upd (upd (upd H z (.tup [.str "put", .int x])) L.r1 (.lst (a1 ++ [.ref z]))) z' (.tup [.str "put", .int x])) L.d1 (.lst (w1 ++ [.ref z'])) L.r1 = some (.lst (a1 ++ [.ref z])) := by rw [upd_ne (neq nd 8 12), upd_ne nrz', upd_same]
  have hz2 : upd (upd (upd (upd H z (.tup [.str "put", .int x])) L.r1 (.lst (a1 ++ [.ref z]))) z' (.tup [.str "put", .int x])) L.d1 (.lst (w1 ++ [.ref z'])) z = some (.tup [.str "put", .int x]) := by rw [upd_ne ndz.symm, upd_ne nzz']; exact hz
  have hz3 : upd (upd (upd (upd H z (.tup [.str "put", .int x])) L.r1 (.lst (a1 ++ [.ref z]))) z' (.tup [.str "put", .int x])) L.d1 (.lst (w1 ++ [.ref z'])) z' = some (.tup [.str "put", .int x]) := by rw [upd_ne ndz'.symm, upd_same]
  have hd2 : upd (upd (upd (upd H z (.tup [.str "put", .int x])) L.r1 (.lst (a1 ++ [.ref z]))) z' (.tup [.str "put", .int x])) L.d1 (.lst (w1 ++ [.ref z'])) L.d1 = some (.lst (w1 ++ [.ref z'])) := upd_same
  generalize upd (upd (upd (upd H z (.tup [.str "put", .int x])) L.r1 (.lst (a1 ++ [.ref z]))) z' (.tup [.str "put", .int x])) L.d1 (.lst (w1 ++ [.ref z'])) = H2 at *
  have y : ∀ i x o, L.mut[i]? = some x → i ≠ 8 → i ≠ 12 → H x = some o → H2 x = some o := fun i x o hx n1 n2 e => f _ _ e (nin2 (neq nd i 8 hx rfl n1) (neq nd i 12 hx rfl n2))
  have m := rw_snoc k hz2 hz3 I.row1
  have m' := rw_mono (Nat.le_succ n) (rw_keep k I.row0)
  exact I.turn f hs (nin2 (neq nd 0 8) (neq nd 0 12)) (nin2 (neq nd 1 8) (neq nd 1 12)) (y 5 _ _ rfl (by decide) (by decide) I.he0) (y 6 _ _ rfl (by decide) (by decide) I.he1) (y 7 _ _ rfl (by decide) (by decide) I.hr0) hr2 (y 11 _ _ rfl (by decide) (by decide) I.hd0) hd2
    (y 9 _ _ rfl (by decide) (by decide) I.hf0) (y 10 _ _ rfl (by decide) (by decide) I.hf1) (y 2 _ _ rfl (by decide) (by decide) I.htk) (y 3 _ _ rfl (by decide) (by decide) I.hun) (y 4 _ _ rfl (by decide) (by decide) I.hkp) m' m (I.keptK f hs) I.ht0 I.ht1 I.hu0 I.hu1 hn (Nat.le_trans I.hks (Nat.le_succ n))
theorem SInv.get1 (I : SInv a L j0 j1 n t0 t1 u0 u1 a0 a1 w0 w1 ks H) (hn : n + 1 ≤ 100) (ht : t1 < j1.length) {q q' : Addr} {x : Int} {H1 : Hp} (g1 : H1 L.e1 = some (.ins a.C_Events L.x1 (evf L.l1 ((t1 : Int) + 1) L.r1))) (g2 : H1 L.r1 = some (.lst (a1 ++ [.ref q]))) (g3 : H1 L.d1 = some (.lst (w1 ++ [.ref q'])))
    (g4 : H1 q = some (.tup [.str "get", .int x])) (g5 : H1 q' = some (.tup [.str "get", .int x])) (g6 : ∀ b o, H b = some o → b ≠ L.e1 → b ≠ L.r1 → b ≠ L.d1 → H1 b = some o) :
    SInv a L j0 j1 (n + 1) t0 (t1 + 1) u0 u1 a0 (a1 ++ [.ref q]) w0 (w1 ++ [.ref q']) ks (upd H1 L.tk (.lst [.int (t0 : Int), .int ((t1 : Int) + 1)])) := by
  have nd := I.nd
  have f : Frm [L.e1, L.r1, L.d1, L.tk] H (upd H1 L.tk (.lst [.int (t0 : Int), .int ((t1 : Int) + 1)])) := fun b o e h => by
    simp only [List.mem_cons, List.not_mem_nil, or_false, not_or] at h
    obtain ⟨h1, h2, h3, h4⟩ := h
    rw [upd_ne h4]; exact g6 b o e h1 h2 h3
  have hs : ∀ x ∈ [L.e1, L.r1, L.d1, L.tk], x ∈ L.mut := fun x h => by simp at h; rcases h with rfl | rfl | rfl | rfl <;> simp [Lay.mut]
  have k := I.kt f hs
  have nq : q ≠ L.tk := fun e => by
    rw [e] at g4
    rw [g6 L.tk _ I.htk (neq nd 2 6) (neq nd 2 8) (neq nd 2 12)] at g4
    cases g4
  have nq' : q' ≠ L.tk := fun e => by
    rw [e] at g5
    rw [g6 L.tk _ I.htk (neq nd 2 6) (neq nd 2 8) (neq nd 2 12)] at g5
    cases g5
  have k1 : upd H1 L.tk (.lst [.int (t0 : Int), .int ((t1 : Int) + 1)]) L.e1 = some (.ins a.C_Events L.x1 (evf L.l1 ((t1 + 1 : Nat) : Int) L.r1)) := by rw [upd_ne (neq nd 6 2)]; exact g1
  have k2 : upd H1 L.tk (.lst [.int (t0 : Int), .int ((t1 : Int) + 1)]) L.r1 = some (.lst (a1 ++ [.ref q])) := by rw [upd_ne (neq nd 8 2)]; exact g2
  have k3 : upd H1 L.tk (.lst [.int (t0 : Int), .int ((t1 : Int) + 1)]) L.d1 = some (.lst (w1 ++ [.ref q'])) := by rw [upd_ne (neq nd 12 2)]; exact g3
  have k4 : upd H1 L.tk (.lst [.int (t0 : Int), .int ((t1 : Int) + 1)]) q = some (.tup [.str "get", .int x]) := by rw [upd_ne nq]; exact g4
  have k5 : upd H1 L.tk (.lst [.int (t0 : Int), .int ((t1 : Int) + 1)]) q' = some (.tup [.str "get", .int x]) := by rw [upd_ne nq']; exact g5
  have k6 : upd H1 L.tk (.lst [.int (t0 : Int), .int ((t1 : Int) + 1)]) L.tk = some (.lst [.int (t0 : Int), .int ((t1 : Int) + 1)]) := upd_same
  generalize upd H1 L.tk (.lst [.int (t0 : Int), .int ((t1 : Int) + 1)]) = H2 at *
  have y : ∀ i x o, L.mut[i]? = some x → i ≠ 6 → i ≠ 8 → i ≠ 12 → i ≠ 2 → H x = some o → H2 x = some o := fun i x o hx n0 n1 n2 n3 e => f _ _ e (nin4 (neq nd i 6 hx rfl n0) (neq nd i 8 hx rfl n1) (neq nd i 12 hx rfl n2) (neq nd i 2 hx rfl n3))
  have m := rw_snoc k k4 k5 I.row1
  have m' := rw_mono (Nat.le_succ n) (rw_keep k I.row0)
  exact I.turn f hs (nin4 (neq nd 0 6) (neq nd 0 8) (neq nd 0 12) (neq nd 0 2)) (nin4 (neq nd 1 6) (neq nd 1 8) (neq nd 1 12) (neq nd 1 2)) (y 5 _ _ rfl (by decide) (by decide) (by decide) (by decide) I.he0) k1 (y 7 _ _ rfl (by decide) (by decide) (by decide) (by decide) I.hr0) k2 (y 11 _ _ rfl (by decide) (by decide) (by decide) (by decide) I.hd0) k3
    (y 9 _ _ rfl (by decide) (by decide) (by decide) (by decide) I.hf0) (y 10 _ _ rfl (by decide) (by decide) (by decide) (by decide) I.hf1) k6 (y 3 _ _ rfl (by decide) (by decide) (by decide) (by decide) I.hun) (y 4 _ _ rfl (by decide) (by decide) (by decide) (by decide) I.hkp) m' m (I.keptK f hs) I.ht0 ht I.hu0 I.hu1 hn (Nat.le_trans I.hks (Nat.le_succ n))
theorem SInv.tick1 (I : SInv a L j0 j1 n t0 t1 u0 u1 a0 a1 w0 w1 ks H) {H1 : Hp} (g1 : H1 L.f1 = some (.ins a.C_Fuel L.y1 (fuf (if u1 = 0 then 0 else u1 - 1)))) (g6 : ∀ b o, H b = some o → b ≠ L.f1 → H1 b = some o) :
    SInv a L j0 j1 n t0 t1 u0 (if u1 = 0 then 0 else u1 - 1) a0 a1 w0 w1 ks (upd H1 L.un (.lst [.int u0, .int (if u1 = 0 then 0 else u1 - 1)])) := by
  have nd := I.nd
  have f : Frm [L.f1, L.un] H (upd H1 L.un (.lst [.int u0, .int (if u1 = 0 then 0 else u1 - 1)])) := fun b o e h => by
    simp only [List.mem_cons, List.not_mem_nil, or_false, not_or] at h
    obtain ⟨h1, h2⟩ := h
    rw [upd_ne h2]; exact g6 b o e h1
  have hs : ∀ x ∈ [L.f1, L.un], x ∈ L.mut := fun x h => by simp at h; rcases h with rfl | rfl <;> simp [Lay.mut]
  have k := I.kt f hs
  have k1 : upd H1 L.un (.lst [.int u0, .int (if u1 = 0 then 0 else u1 - 1)]) L.f1 = some (.ins a.C_Fuel L.y1 (fuf (if u1 = 0 then 0 else u1 - 1))) := by rw [upd_ne (neq nd 10 3)]; exact g1
  have k6 : upd H1 L.un (.lst [.int u0, .int (if u1 = 0 then 0 else u1 - 1)]) L.un = some (.lst [.int u0, .int (if u1 = 0 then 0 else u1 - 1)]) := upd_same
  generalize upd H1 L.un (.lst [.int u0, .int (if u1 = 0 then 0 else u1 - 1)]) = H2 at *
  have y : ∀ i x o, L.mut[i]? = some x → i ≠ 10 → i ≠ 3 → H x = some o → H2 x = some o := fun i x o hx n0 n1 e => f _ _ e (nin2 (neq nd i 10 hx rfl n0) (neq nd i 3 hx rfl n1))
  have hu : 0 ≤ (if u1 = 0 then 0 else u1 - 1) := by have := I.hu1; split <;> omega
  exact I.turn f hs (nin2 (neq nd 0 10) (neq nd 0 3)) (nin2 (neq nd 1 10) (neq nd 1 3)) (y 5 _ _ rfl (by decide) (by decide) I.he0) (y 6 _ _ rfl (by decide) (by decide) I.he1) (y 7 _ _ rfl (by decide) (by decide) I.hr0) (y 8 _ _ rfl (by decide) (by decide) I.hr1) (y 11 _ _ rfl (by decide) (by decide) I.hd0) (y 12 _ _ rfl (by decide) (by decide) I.hd1)
    (y 9 _ _ rfl (by decide) (by decide) I.hf0) k1 (y 2 _ _ rfl (by decide) (by decide) I.htk) k6 (y 4 _ _ rfl (by decide) (by decide) I.hkp) (rw_keep k I.row0) (rw_keep k I.row1) (I.keptK f hs) I.ht0 I.ht1 I.hu0 hu I.hn I.hks
end

/-! ### what is there, and apart -/
def Own (H : Hp) (xs : List Addr) : Prop := xs.Nodup ∧ ∀ x ∈ xs, ∃ o, H x = some o
theorem own_nil {H : Hp} : Own H [] := ⟨List.nodup_nil, fun _ h => by simp at h⟩
theorem own_add {H H' : Hp} {xs : List Addr} {p : Addr} {v : HO} (o : Own H xs) (k : ∀ x ∈ xs, ∃ o, H' x = some o) (n : H p = none) (e : H' p = some v) : Own H' (p :: xs) := by
  refine ⟨List.nodup_cons.mpr ⟨fun h => ?_, o.1⟩, fun x h => ?_⟩
  · obtain ⟨u, hu⟩ := o.2 p h
    rw [n] at hu; cases hu
  · rcases List.mem_cons.mp h with rfl | h
    · exact ⟨_, e⟩
    · exact k x h
theorem own_same {H H' : Hp} {xs : List Addr} (o : Own H xs) (s : Same H H') : Own H' xs := ⟨o.1, fun x h => by
  obtain ⟨u, e⟩ := o.2 x h
  exact ⟨u, s _ _ e⟩⟩
theorem own_new {H : Hp} {xs : List Addr} {p : Addr} {v : HO} (o : Own H xs) (n : H p = none) : Own (upd H p v) (p :: xs) := own_add o (own_same o (sN (Same.refl H) n)).2 n upd_same
theorem own_fr2 {H H' : Hp} {xs : List Addr} {st g : Addr} (o : Own H xs) (f : Fr2 st g H H') (s : StAt H' st g) : Own H' xs := ⟨o.1, fun x h => by
  obtain ⟨u, e⟩ := o.2 x h
  obtain ⟨_, _, _, _, h1, h2⟩ := s
  by_cases c1 : x = st
  · exact ⟨_, by rw [c1]; exact h1⟩
  · by_cases c2 : x = g
    · exact ⟨_, by rw [c2]; exact h2⟩
    · exact ⟨_, f x u e c1 c2⟩⟩
theorem own_upd {H : Hp} {xs : List Addr} {p : Addr} {v : HO} (o : Own H xs) : Own (upd H p v) xs := ⟨o.1, fun x h => by
  obtain ⟨u, e⟩ := o.2 x h
  by_cases c : x = p
  · exact ⟨_, by rw [c]; exact upd_same⟩
  · exact ⟨u, by rw [upd_ne c]; exact e⟩⟩
theorem own_but {H H' : Hp} {xs : List Addr} {p : Addr} {v : HO} (o : Own H xs) (k : ∀ b o, H b = some o → b ≠ p → H' b = some o) (e : H' p = some v) : Own H' xs := ⟨o.1, fun x h => by
  obtain ⟨u, e'⟩ := o.2 x h
  by_cases c : x = p
  · exact ⟨_, by rw [c]; exact e⟩
  · exact ⟨u, k x u e' c⟩⟩
theorem own_ne {H : Hp} {xs : List Addr} (o : Own H xs) (i j : Nat) {x y : Addr} (hx : xs[i]? = some x := by rfl) (hy : xs[j]? = some y := by rfl) (h : i ≠ j := by decide) : x ≠ y := by
  intro e
  subst e
  obtain ⟨h1, e1⟩ := List.getElem?_eq_some_iff.mp hx
  obtain ⟨h2, e2⟩ := List.getElem?_eq_some_iff.mp hy
  exact h ((List.getElem_inj o.1).mp (e1.trans e2.symm))
theorem nodup_pick {xs : List Addr} (nd : xs.Nodup) : ∀ (idx : List Nat), idx.Nodup → (∀ i ∈ idx, i < xs.length) → (idx.map fun i => xs.getD i 0).Nodup
  | [], _, _ => List.nodup_nil
  | i :: r, h, hb => by
    obtain ⟨h1, h2⟩ := List.nodup_cons.mp h
    refine List.nodup_cons.mpr ⟨fun hm => ?_, nodup_pick nd r h2 fun j hj => hb j (List.mem_cons_of_mem _ hj)⟩
    obtain ⟨j, hj, e⟩ := List.mem_map.mp hm
    have li := hb i List.mem_cons_self
    have lj := hb j (List.mem_cons_of_mem _ hj)
    have e' : xs[j] = xs[i] := by simpa [List.getD, li, lj] using e
    have : j = i := (List.getElem_inj nd).mp e'
    exact h1 (this ▸ hj)
theorem cl_ints : ∀ ns : List Int, PyData.canLayAll0 (ns.map PyData.int) = true
  | [] => by simp [PyData.canLayAll0]
  | n :: r => by simp [PyData.canLayAll0, PyData.canLay0, cl_ints r]
theorem dp_ints' : ∀ ns : List Int, PyData.depthAll (ns.map PyData.int) = 0
  | [] => by simp [PyData.depthAll]
  | n :: r => by simp [PyData.depthAll, PyData.depth, dp_ints' r]
theorem cl_two (ms ns : List Int) : PyData.canLay0 (.list [.list (ms.map .int), .list (ns.map .int)]) = true := by simp [PyData.canLay0, PyData.canLayAll0, cl_ints]
theorem sh_two (ms ns : List Int) : SeqAt.shaped (.list [.list (ms.map .int), .list (ns.map .int)]) = true := by
  show (PyData.canLay0 _ && decide (PyData.depth _ ≤ 64)) = true
  rw [cl_two]
  simp [PyData.depth, PyData.depthAll, dp_ints']
theorem dpInts {H : Hp} : ∀ (ns : List Int), DpAll K H (ns.map V.int) (ns.map PyData.int)
  | [] => .nil
  | n :: r => .cons (.int n) (dpInts r)
theorem dpTwo {H : Hp} {p q r : Addr} {ms ns : List Int} (h : H p = some (.lst [.ref q, .ref r])) (h1 : H q = some (.lst (ms.map V.int))) (h2 : H r = some (.lst (ns.map V.int))) : Dp K H (.ref p) (.list [.list (ms.map .int), .list (ns.map .int)]) :=
  .lst (SqL.of h) (.cons (.lst (SqL.of h1) (dpInts ms)) (.cons (.lst (SqL.of h2) (dpInts ns)) .nil))
theorem pick2 (b : Bool) (x y : Int) : atI [V.int x, V.int y] (if b = true then 1 else 0) = some (V.int (if b = true then y else x)) := by cases b <;> rfl
/-! ### what stands where -/
structure Box (H : Hp) (Fs : List (Addr × HO)) : Prop where
  nd : (Fs.map (·.1)).Nodup
  at' : ∀ q ∈ Fs, H q.1 = some q.2
theorem Box.get {H : Hp} {Fs : List (Addr × HO)} (B : Box H Fs) (i : Nat) {p : Addr} {v : HO} (h : Fs[i]? = some (p, v) := by rfl) : H p = some v := B.at' _ (List.mem_of_getElem? h)
theorem Box.notin {H : Hp} {Fs : List (Addr × HO)} (B : Box H Fs) {p : Addr} (n : H p = none) : p ∉ Fs.map (·.1) := fun h => by
  obtain ⟨q, hq, e⟩ := List.mem_map.mp h
  have := B.at' q hq
  rw [e, n] at this; cases this
theorem Box.new {H : Hp} {Fs : List (Addr × HO)} (B : Box H Fs) {p : Addr} {v : HO} (n : H p = none) : Box (upd H p v) ((p, v) :: Fs) := by
  refine ⟨List.nodup_cons.mpr ⟨B.notin n, B.nd⟩, fun q hq => ?_⟩
  rcases List.mem_cons.mp hq with rfl | hq
  · exact upd_same
  · rw [upd_ne (ne_of_none (B.at' q hq) n)]; exact B.at' q hq
theorem Box.put {H H' : Hp} {Fs Gs : List (Addr × HO)} (B : Box H Fs) (B' : Box H' Gs) (k : Gs.map (·.1) = Fs.map (·.1)) {p : Addr} {v : HO} (n : H p = none) (e : H' p = some v) : Box H' ((p, v) :: Gs) := by
  refine ⟨List.nodup_cons.mpr ⟨by rw [k]; exact B.notin n, B'.nd⟩, fun q hq => ?_⟩
  rcases List.mem_cons.mp hq with rfl | hq
  · exact e
  · exact B'.at' q hq
theorem set_keys {Fs : List (Addr × HO)} {i : Nat} {p : Addr} {v v' : HO} (h : Fs[i]? = some (p, v)) : (Fs.set i (p, v')).map (·.1) = Fs.map (·.1) := by
  rw [List.map_set]
  have e : (Fs.map (·.1))[i]? = some p := by rw [List.getElem?_map, h] <;> rfl
  obtain ⟨hl, he⟩ := List.getElem?_eq_some_iff.mp e
  have := List.set_getElem_self hl
  rw [he] at this
  exact this
theorem Box.set {H H' : Hp} {Fs : List (Addr × HO)} (B : Box H Fs) (i : Nat) {p : Addr} {v v' : HO} (h : Fs[i]? = some (p, v)) (f : ∀ b o, H b = some o → b ≠ p → H' b = some o) (e : H' p = some v') : Box H' (Fs.set i (p, v')) := by
  have hk := set_keys (v' := v') h
  have hn := B.nd
  refine ⟨by rw [hk]; exact hn, fun q hq => ?_⟩
  obtain ⟨j, hj, ej⟩ := List.getElem_of_mem hq
  rw [List.getElem_set] at ej
  split at ej
  · subst ej; exact e
  · rename_i ne
    have hj' : j < Fs.length := by simpa using hj
    subst ej
    refine f _ _ (B.at' _ (List.getElem_mem hj')) fun ep => ne ?_
    obtain ⟨hi, ei⟩ := List.getElem?_eq_some_iff.mp h
    have hi2 : i < (Fs.map (·.1)).length := by simpa using hi
    have hj2 : j < (Fs.map (·.1)).length := by simpa using hj'
    have : (Fs.map (·.1))[i] = (Fs.map (·.1))[j] := by simp [ei, ep]
    exact (List.getElem_inj hn).mp this
theorem Box.upd {H : Hp} {Fs : List (Addr × HO)} (B : Box H Fs) (i : Nat) {p : Addr} {v v' : HO} (h : Fs[i]? = some (p, v)) : Box (L2.upd H p v') (Fs.set i (p, v')) := B.set i h (fun _ _ e n => by rw [upd_ne n]; exact e) upd_same
theorem Box.ev {H H' : Hp} {Fs : List (Addr × HO)} {e l r : Addr} {v v' u u' : HO} (B : Box H ((e, v) :: Fs)) (nl : H l = none) (nr : H r = none) (ne : l ≠ r) (he : H' e = some v') (hl : H' l = some u) (hr : H' r = some u') (f : ∀ b o, H b = some o → b ≠ e → H' b = some o) :
    Box H' ((r, u') :: (l, u) :: (e, v') :: Fs) := by
  have B1 := B.set 0 rfl f he
  have B2 : Box H' ((l, u) :: (e, v') :: Fs) := B.put B1 rfl nl hl
  exact (B.new (v := u) nl).put B2 rfl (by rw [upd_ne ne.symm]; exact nr) hr
theorem pick {xs : List Addr} (nd : xs.Nodup) (idx : List Nat) (n : Nat) (hn : xs.length = n) (h : (decide idx.Nodup && idx.all (decide <| · < n)) = true) : (idx.map fun i => xs.getD i 0).Nodup := by
  simp only [Bool.and_eq_true, decide_eq_true_eq, List.all_eq_true] at h
  exact nodup_pick nd idx h.1 fun i hi => by rw [hn]; simpa using h.2 i hi
def sgm (sa st ii un pp ev fl tk dd kp : Addr) (lg : Bool) (x11 x12 x13 x14 x15 x16 : Option V) : St := [some (.ref sa), some (.ref st), some (.bl lg), some (.ref ii), some (.ref un), some (.ref pp), some (.ref ev), some (.ref fl), some (.ref tk), some (.ref dd), some (.ref kp), x11, x12, x13, x14, x15, x16]
theorem rw_len {n : Nat} {H : Hp} {x y : List V} (r : ∃ ds, Rw H x ds ∧ Rw H y ds ∧ ds.length ≤ n) : x.length ≤ n ∧ y.length ≤ n := by
  obtain ⟨ds, r1, r2, r3⟩ := r
  exact ⟨by rw [r1.len]; exact r3, by rw [r2.len]; exact r3⟩
theorem Cst.apart {L : Lay} {j0 j1 : List Int} {H : Hp} (c : Cst L j0 j1 H) (x y : Addr) (hx : x ∈ [L.ev, L.fl, L.ii, L.dd, L.i0, L.i1, L.l0, L.l1]) (hy : y ∈ L.mut) : x ≠ y := fun e => c.out x hx (e ▸ hy)
theorem ok_law (T : Txt K mg a) : FnOk P w K mg base CX0 6 a.f_law a.d_law ["script"] (spLaw K) := by
  have G_law_constants : FnOk P w K mg base CX0 4 _ _ _ _ := ok_law_constants T
  have G_law_start : FnOk P w K mg base CX0 1 _ _ _ _ := ok_law_start T
  have G_law_take : FnOk P w K mg base CX0 1 _ _ _ _ := ok_law_take T
  have G_law_word : FnOk P w K mg base CX0 2 _ _ _ _ := ok_law_word T
  have G_law_inputs : FnOk P w K mg base CX0 3 _ _ _ _ := ok_law_inputs T
  have G_law_get : FnOk P w K mg base CX0 4 _ _ _ _ := ok_law_get T
  have G_law_tick : FnOk P w K mg base CX0 4 _ _ _ _ := ok_law_tick T
  have G_law_alike : FnOk P w K mg base CX0 3 _ _ _ _ := ok_alike T 2
  have G_Events___init__ : FnOk P w K mg base CX0 1 _ _ _ _ := ok_Events___init__ T
  have G_Events_put : FnOk P w K mg base CX0 1 _ _ _ _ := ok_Events_put T
  have G_Events_rows : FnOk P w K mg base CX0 1 _ _ _ _ := ok_Events_rows T
  have G_Fuel___init__ : FnOk P w K mg base CX0 1 _ _ _ _ := ok_Fuel___init__ T
  have G_Fuel_remaining : FnOk P w K mg base CX0 1 _ _ _ _ := ok_Fuel_remaining T
  refine T.F_law.ok sc_law (fun vs H Q E h => ?_) (fun cdv A outer s H vs Q E hr h => ?_)
  · obtain ⟨_, _, rfl, _⟩ := h; rfl
  · obtain ⟨sa, ns, rfl, hS, hlen, q⟩ := h
    refine ⟨_, (pss_cons (ps_if (pt_not (pt_val (pe_call0 G_law_constants (hr.mono (by decide)) rfl T.g__law_constants T.k__law_constants T.bd__law_constants .nil pass0))) (pss_one (ps_ret pe_bl)) pss_nil)
      (pss_cons (ps_set (i := 1) sc_law.nd rfl (Or.inl rfl) (pe_call G_law_start (hr.mono (by decide)) rfl T.g__law_start T.k__law_start T.bd__law_start .nil pass0 (pa_cons (pv 0) pa_nil)))
      (pss_cons (ps_set (i := 2) sc_law.nd rfl (Or.inl rfl) (pe_cmpR op_eq (pe_call G_law_take (hr.mono (by decide)) rfl T.g__law_take T.k__law_take T.bd__law_take .nil pass0 (pa_cons (pv 1) (pa_cons pe_int pa_nil))) pe_int (nomark _)))
      (pss_cons (ps_set (i := 3) sc_law.nd rfl (Or.inl rfl) (pe_lst (pa_cons (pe_call G_law_inputs (hr.mono (by decide)) rfl T.g__law_inputs T.k__law_inputs T.bd__law_inputs .nil pass0 (pa_cons (pv 1) (pa_cons (pe_ix ix_list (pe_lst (pa_cons pe_int (pa_cons pe_int pa_nil))) (pe_callTy call_int1 (by rfl) T.b_int (by decide +kernel) (pa_cons (pv 2) pa_nil)) (fun _ _ => rfl)) pa_nil))) (pa_cons (pe_call G_law_inputs (hr.mono (by decide)) rfl T.g__law_inputs T.k__law_inputs T.bd__law_inputs .nil pass0 (pa_cons (pv 1) (pa_cons pe_int pa_nil))) pa_nil))))
      (pss_cons (ps_set (i := 4) sc_law.nd rfl (Or.inl rfl) (pe_lst (pa_cons (pe_call G_law_take (hr.mono (by decide)) rfl T.g__law_take T.k__law_take T.bd__law_take .nil pass0 (pa_cons (pv 1) (pa_cons (pe_ix ix_list (pe_lst (pa_cons pe_int (pa_cons pe_int pa_nil))) (pe_callTy call_int1 (by rfl) T.b_int (by decide +kernel) (pa_cons (pv 2) pa_nil)) (fun _ _ => rfl)) pa_nil))) (pa_cons (pe_call G_law_take (hr.mono (by decide)) rfl T.g__law_take T.k__law_take T.bd__law_take .nil pass0 (pa_cons (pv 1) (pa_cons pe_int pa_nil))) pa_nil))))
      (pss_cons (ps_set (i := 5) sc_law.nd rfl (Or.inl rfl) (pe_lst (pa_cons (pe_callTy call_list_of (by rfl) T.b_list (by decide +kernel) (pa_cons (pe_ix ix_list (pv 3) pe_int (fun _ _ => rfl)) pa_nil)) (pa_cons (pe_callTy call_list_of (by rfl) T.b_list (by decide +kernel) (pa_cons (pe_ix ix_list (pv 3) pe_int (fun _ _ => rfl)) pa_nil)) pa_nil))))
      (pss_cons (ps_set (i := 6) sc_law.nd rfl (Or.inl rfl) (pe_lst (pa_cons (pe_make T.mk_Events G_Events___init__ (hr.mono (by decide)) rfl T.g_Events T.bd_Events___init__ .nil pass0 (pa_cons (pe_ix ix_list (pv 5) pe_int (fun _ _ => rfl)) pa_nil)) (pa_cons (pe_make T.mk_Events G_Events___init__ (hr.mono (by decide)) rfl T.g_Events T.bd_Events___init__ .nil pass0 (pa_cons (pe_ix ix_list (pv 5) pe_int (fun _ _ => rfl)) pa_nil)) pa_nil))))
      (pss_cons (ps_set (i := 7) sc_law.nd rfl (Or.inl rfl) (pe_lst (pa_cons (pe_make T.mk_Fuel G_Fuel___init__ (hr.mono (by decide)) rfl T.g_Fuel T.bd_Fuel___init__ .nil pass0 (pa_cons (pe_ix ix_list (pv 4) pe_int (fun _ _ => rfl)) pa_nil)) (pa_cons (pe_make T.mk_Fuel G_Fuel___init__ (hr.mono (by decide)) rfl T.g_Fuel T.bd_Fuel___init__ .nil pass0 (pa_cons (pe_ix ix_list (pv 4) pe_int (fun _ _ => rfl)) pa_nil)) pa_nil))))
      (pss_cons (ps_if (pt_cmpR (op_neD hr.units) (pv 5) (pv 3) (nomark _)) (pss_one (ps_ret pe_bl)) pss_nil)
      (pss_cons (ps_expr (pe_bm PySem.F.plainAttrs_list PySem.F.slot_list_insert PySem.F.type_list_insert mt_insert (pe_ix ix_list (pv 5) pe_int (fun _ _ => rfl)) (pa_cons pe_int (pa_cons pe_int pa_nil))))
      (pss_cons (ps_expr (pe_bm PySem.F.plainAttrs_list PySem.F.slot_list_append PySem.F.type_list_append mt_append (pe_ix ix_list (pv 5) pe_int (fun _ _ => rfl)) (pa_cons pe_int pa_nil)))
      (pss_cons (ps_set (i := 8) sc_law.nd rfl (Or.inl rfl) (pe_lst (pa_cons pe_int (pa_cons pe_int pa_nil))))
      (pss_cons (ps_set (i := 9) sc_law.nd rfl (Or.inl rfl) (pe_lst (pa_cons (pe_lst pa_nil) (pa_cons (pe_lst pa_nil) pa_nil))))
      (pss_cons (ps_set (i := 10) sc_law.nd rfl (Or.inl rfl) (pe_lst pa_nil))
      (pss_cons (ps_for PassesOwn.never rfl (pi_range1 rfl T.b_range (pa_cons (pe_call G_law_take (hr.mono (by decide)) rfl T.g__law_take T.k__law_take T.bd__law_take .nil pass0 (pa_cons (pv 1) (pa_cons pe_int pa_nil))) pa_nil)) (pg_name (i := 11) sc_law.nd rfl (Or.inl rfl)) (pss_cons (ps_set (i := 12) sc_law.nd rfl (Or.inl rfl) (pe_call G_law_take (hr.mono (by decide)) rfl T.g__law_take T.k__law_take T.bd__law_take .nil pass0 (pa_cons (pv 1) (pa_cons pe_int pa_nil))))
      (pss_cons (ps_set (i := 13) sc_law.nd rfl (Or.inl rfl) (pe_call G_law_take (hr.mono (by decide)) rfl T.g__law_take T.k__law_take T.bd__law_take .nil pass0 (pa_cons (pv 1) (pa_cons pe_int pa_nil))))
      (C8.pss_cut (ps_if (pt_cmpR op_eq (pv 13) pe_int (nomark _)) (pss_cons (ps_set (i := 14) sc_law.nd rfl (Or.inl rfl) (pe_call G_law_word (hr.mono (by decide)) rfl T.g__law_word T.k__law_word T.bd__law_word .nil pass0 (pa_cons (pv 1) pa_nil)))
      (pss_cons (ps_if (pt_cmpR op_notN (pe_meth (pe_ix ix_list (pv 6) (pv 12) (fun _ _ => rfl)) T.cl_Events T.m_Events_put G_Events_put (hr.mono (by decide)) T.bd_Events_put .nil pass0 (pa_cons (pv 14) pa_nil)) pe_non (nomark _)) (pss_one (ps_ret pe_bl)) pss_nil)
      (pss_one (ps_expr (pe_bm PySem.F.plainAttrs_list PySem.F.slot_list_append PySem.F.type_list_append mt_append (pe_ix ix_list (pv 9) (pv 12) (fun _ _ => rfl)) (pa_cons (pe_tup (pa_cons pe_str (pa_cons (pv 14) pa_nil))) pa_nil)))))) (pss_one (ps_if (pt_cmpR op_lt (pv 13) pe_int (nomark _)) (pss_cons (ps_if (pt_not (pt_val (pe_call G_law_get (hr.mono (by decide)) rfl T.g__law_get T.k__law_get T.bd__law_get .nil pass0 (pa_cons (pe_ix ix_list (pv 6) (pv 12) (fun _ _ => rfl)) (pa_cons (pe_ix ix_list (pv 3) (pv 12) (fun _ _ => rfl)) (pa_cons (pe_ix ix_list (pv 8) (pv 12) (fun _ _ => rfl)) (pa_cons (pe_ix ix_list (pv 9) (pv 12) (fun _ _ => rfl)) pa_nil))))))) (pss_one (ps_ret pe_bl)) pss_nil)
      (pss_one (ps_asg (pe_callB (call_min2 rfl) (by rfl) T.b_min (by decide +kernel) (pa_cons (pe_op op_add (pe_ix ix_list (pv 8) (pv 12) (fun _ _ => rfl)) pe_int) (pa_cons (pe_callB call_len_seq (by rfl) T.b_len (by decide +kernel) (pa_cons (pe_ix ix_list (pv 3) (pv 12) (fun _ _ => rfl)) pa_nil)) pa_nil))) (pg_sub (pv 8) (pv 12) set_list)))) (pss_cons (ps_if (pt_not (pt_val (pe_call G_law_tick (hr.mono (by decide)) rfl T.g__law_tick T.k__law_tick T.bd__law_tick .nil pass0 (pa_cons (pe_ix ix_list (pv 7) (pv 12) (fun _ _ => rfl)) (pa_cons (pe_ix ix_list (pv 4) (pv 12) (fun _ _ => rfl)) pa_nil))))) (pss_one (ps_ret pe_bl)) pss_nil)
      (pss_one (ps_asg (pe_callB (call_max2 rfl) (by rfl) T.b_max (by decide +kernel) (pa_cons pe_int (pa_cons (pe_op op_sub (pe_ix ix_list (pv 4) (pv 12) (fun _ _ => rfl)) pe_int) pa_nil))) (pg_sub (pv 4) (pv 12) set_list)))))))
      (pss_cons (ps_for PassesOwn.never rfl (pi_range1 rfl T.b_range (pa_cons pe_int pa_nil)) (pg_name (i := 15) sc_law.nd rfl (Or.inl rfl)) (pss_one (ps_if (PW.pt (pw_or (pt_not (pt_val (pe_call G_law_alike (hr.mono (by decide)) rfl T.g__law_alike T.k__law_alike T.bd__law_alike .nil pass0 (pa_cons (pe_prop (pe_ix ix_list (pv 6) (pv 15) (fun _ _ => rfl)) T.cl_Events T.pr_Events_rows G_Events_rows (hr.mono (by decide)) T.bd_Events_rows .nil pass0 rfl) (pa_cons (pe_callTy call_tuple_of (by rfl) T.b_tuple (by decide +kernel) (pa_cons (pe_ix ix_list (pv 9) (pv 15) (fun _ _ => rfl)) pa_nil)) pa_nil))))) (pw_or1 (pt_not (pt_val (pe_call G_law_alike (hr.mono (by decide)) rfl T.g__law_alike T.k__law_alike T.bd__law_alike .nil pass0 (pa_cons (pe_prop (pe_ix ix_list (pv 7) (pv 15) (fun _ _ => rfl)) T.cl_Fuel T.pr_Fuel_remaining G_Fuel_remaining (hr.mono (by decide)) T.bd_Fuel_remaining .nil pass0 rfl) (pa_cons (pe_ix ix_list (pv 4) (pv 15) (fun _ _ => rfl)) pa_nil)))))))) (pss_one (ps_ret pe_bl)) pss_nil)))
      (pss_one (ps_expr (pe_bm PySem.F.plainAttrs_list PySem.F.slot_list_append PySem.F.type_list_append mt_append (pv 10) (pa_cons (pe_lst (pa_cons (pe_prop (pe_ix ix_list (pv 6) (pv 12) (fun _ _ => rfl)) T.cl_Events T.pr_Events_rows G_Events_rows (hr.mono (by decide)) T.bd_Events_rows .nil pass0 rfl) (pa_cons (pe_callTy call_tuple_of (by rfl) T.b_tuple (by decide +kernel) (pa_cons (pe_ix ix_list (pv 9) (pv 12) (fun _ _ => rfl)) pa_nil)) pa_nil))) pa_nil)))))))))
      (pss_cons (ps_for PassesOwn.never rfl (pi_list (pv 10)) (pg_name (i := 16) sc_law.nd rfl (Or.inl rfl)) (pss_one (ps_if (pt_not (pt_val (pe_call G_law_alike (hr.mono (by decide)) rfl T.g__law_alike T.k__law_alike T.bd__law_alike .nil pass0 (pa_cons (pe_ix ix_list (pv 16) pe_int (fun _ _ => rfl)) (pa_cons (pe_ix ix_list (pv 16) pe_int (fun _ _ => rfl)) pa_nil))))) (pss_one (ps_ret pe_bl)) pss_nil)))
      (pss_one (ps_ret (pe_and (pe_call G_law_alike (hr.mono (by decide)) rfl T.g__law_alike T.k__law_alike T.bd__law_alike .nil pass0 (pa_cons (pe_prop (pe_ix ix_list (pv 6) pe_int (fun _ _ => rfl)) T.cl_Events T.pr_Events_rows G_Events_rows (hr.mono (by decide)) T.bd_Events_rows .nil pass0 rfl) (pa_cons (pe_callTy call_tuple_of (by rfl) T.b_tuple (by decide +kernel) (pa_cons (pe_ix ix_list (pv 9) pe_int (fun _ _ => rfl)) pa_nil)) pa_nil))) (pe_one (pe_call G_law_alike (hr.mono (by decide)) rfl T.g__law_alike T.k__law_alike T.bd__law_alike .nil pass0 (pa_cons (pe_prop (pe_ix ix_list (pv 7) pe_int (fun _ _ => rfl)) T.cl_Fuel T.pr_Fuel_remaining G_Fuel_remaining (hr.mono (by decide)) T.bd_Fuel_remaining .nil pass0 rfl) (pa_cons (pe_ix ix_list (pv 4) pe_int (fun _ _ => rfl)) pa_nil))))))))))))))))))))))), ?_⟩
    refine ⟨rfl, fun H1 s1 => ⟨_, rfl, iteF ?_⟩⟩
    refine ⟨_, rfl, sa, ns, rfl, s1.seq hS, hlen, fun st g H2 nst ng S2 s2 => ?_⟩
    have o2 : Own H2 [g, st] := by
      obtain ⟨_, _, _, _, k1, k2⟩ := id S2
      exact ⟨by simp [S2.ne.symm], fun x hx => by simp at hx; rcases hx with rfl | rfl; exact ⟨_, k2⟩; exact ⟨_, k1⟩⟩
    refine ⟨_, rfl, st, g, 4, rfl, S2, by decide, by decide, fun v H3 v0 v1 S3 F3 => ⟨rfl, ?_⟩⟩
    have o3 := own_fr2 o2 F3 S3
    generalize decide (V.int v = V.int 1) = lg
    -- inputs
    refine ⟨_, rfl, (by show 2 ≤ sizeLine; decide), fun p4 n4 => ⟨_, rfl, .inr ⟨_, rfl, _, _, _, _, rfl, rfl, SqL.of upd_same, pick2 lg 6 200, st, g, _, rfl, st_new S3 n4, by cases lg <;> decide, by cases lg <;> decide, fun D0 j0 H4 nD0 hD0 hj0 S4 F4 => ?_⟩⟩⟩
    have o4 : Own H4 [D0, p4, g, st] := own_add (own_new o3 n4) (own_fr2 (own_new o3 n4) F4 S4).2 nD0 hD0
    refine ⟨_, rfl, st, g, 6, rfl, S4, by decide, by decide, fun D1 j1 H5 nD1 hD1 hj1 S5 F5 => ?_⟩
    have o5 : Own H5 [D1, D0, p4, g, st] := own_add o4 (own_fr2 o4 F5 S5).2 nD1 hD1
    replace hD0 := F5 _ _ hD0 (own_ne o5 1 4) (own_ne o5 1 3)
    refine ⟨(by show 2 ≤ sizeLine; decide), fun ii n6 => ?_⟩
    have o6 := own_new (v := .lst [.ref D0, .ref D1]) o5 n6
    have hii : upd H5 ii (.lst [.ref D0, .ref D1]) ii = some (.lst [.ref D0, .ref D1]) := upd_same
    have k6 := sN (Same.refl H5) n6 (o := .lst [.ref D0, .ref D1])
    replace hD0 := k6 _ _ hD0
    replace hD1 := k6 _ _ hD1
    have S6 := st_same S5 k6
    generalize upd H5 ii (.lst [.ref D0, .ref D1]) = H6 at *
    -- units
    refine ⟨_, rfl, (by show 2 ≤ sizeLine; decide), fun p7 n7 => ⟨_, rfl, .inr ⟨_, rfl, _, _, _, _, rfl, rfl, SqL.of upd_same, pick2 lg 7 100001, st, g, _, rfl, st_new S6 n7, by cases lg <;> decide, by cases lg <;> decide, fun u0 H7 u00 u01 S7 F7 => ?_⟩⟩⟩
    have k7 := sN (Same.refl H6) n7 (o := .lst [.int 7, .int 100001])
    have o7 : Own H7 [p7, ii, D1, D0, p4, g, st] := own_fr2 (own_new o6 n7) F7 S7
    replace hD0 := F7 _ _ (k7 _ _ hD0) (own_ne o7 3 6) (own_ne o7 3 5)
    replace hD1 := F7 _ _ (k7 _ _ hD1) (own_ne o7 2 6) (own_ne o7 2 5)
    replace hii := F7 _ _ (k7 _ _ hii) (own_ne o7 1 6) (own_ne o7 1 5)
    refine ⟨_, rfl, st, g, 7, rfl, S7, by decide, by decide, fun u1 H8 u10 u11 S8 F8 => ?_⟩
    have o8 := own_fr2 o7 F8 S8
    replace hD0 := F8 _ _ hD0 (own_ne o7 3 6) (own_ne o7 3 5)
    replace hD1 := F8 _ _ hD1 (own_ne o7 2 6) (own_ne o7 2 5)
    replace hii := F8 _ _ hii (own_ne o7 1 6) (own_ne o7 1 5)
    refine ⟨(by show 2 ≤ sizeLine; decide), fun un n9 => ?_⟩
    have o9 := own_new (v := .lst [.int u0, .int u1]) o8 n9
    have k9 := sN (Same.refl H8) n9 (o := .lst [.int u0, .int u1])
    have hun : upd H8 un (.lst [.int u0, .int u1]) un = some (.lst [.int u0, .int u1]) := upd_same
    replace hD0 := k9 _ _ hD0
    replace hD1 := k9 _ _ hD1
    replace hii := k9 _ _ hii
    have S9 := st_same S8 k9
    generalize upd H8 un (.lst [.int u0, .int u1]) = H9 at *
    clear o2 o3 o4 o5 o6 o7 o8
    -- passed
    refine ⟨_, rfl, _, _, _, _, rfl, rfl, SqL.of hii, rfl, D0, _, rfl, .inl (SqL.of hD0), fun c0 n10 => ?_⟩
    have o10 := own_new (v := .lst (j0.map V.int)) o9 n10
    have k10 := sN (Same.refl H9) n10 (o := .lst (j0.map V.int))
    have hc0 : upd H9 c0 (.lst (j0.map V.int)) c0 = some (.lst (j0.map V.int)) := upd_same
    replace hD0 := k10 _ _ hD0
    replace hD1 := k10 _ _ hD1
    replace hii := k10 _ _ hii
    replace hun := k10 _ _ hun
    have S10 := st_same S9 k10
    generalize upd H9 c0 (.lst (j0.map V.int)) = H10 at *
    refine ⟨_, rfl, _, _, _, _, rfl, rfl, SqL.of hii, rfl, D1, _, rfl, .inl (SqL.of hD1), fun c1 n11 => ?_⟩
    have o11 := own_new (v := .lst (j1.map V.int)) o10 n11
    have k11 := sN (Same.refl H10) n11 (o := .lst (j1.map V.int))
    have hc1 : upd H10 c1 (.lst (j1.map V.int)) c1 = some (.lst (j1.map V.int)) := upd_same
    refine ⟨(by show 2 ≤ sizeLine; decide), fun pp n12 => ?_⟩
    have o12 := own_new (v := .lst [.ref c0, .ref c1]) o11 n12
    have k12 := sN k11 n12 (o := .lst [.ref c0, .ref c1])
    have hpp : upd (upd H10 c1 (.lst (j1.map V.int))) pp (.lst [.ref c0, .ref c1]) pp = some (.lst [.ref c0, .ref c1]) := upd_same
    replace hc1 := sN (Same.refl _) n12 (o := .lst [.ref c0, .ref c1]) _ _ hc1
    replace hD0 := k12 _ _ hD0
    replace hD1 := k12 _ _ hD1
    replace hii := k12 _ _ hii
    replace hun := k12 _ _ hun
    replace hc0 := k12 _ _ hc0
    have S12 := st_same S10 k12
    generalize upd (upd H10 c1 (.lst (j1.map V.int))) pp (.lst [.ref c0, .ref c1]) = H12 at *
    clear o9 o10 o11 k12 k11
    have B12 : Box H12 [(pp, .lst [.ref c0, .ref c1]), (c1, .lst (j1.map V.int)), (c0, .lst (j0.map V.int)), (un, .lst [.int u0, .int u1]), (ii, .lst [.ref D0, .ref D1]), (D1, .lst (j1.map V.int)), (D0, .lst (j0.map V.int))] := by
      refine ⟨pick o12.1 [0, 1, 2, 3, 5, 6, 7] 11 rfl (by decide), fun q hq => ?_⟩
      simp only [List.mem_cons, List.not_mem_nil, or_false] at hq
      rcases hq with rfl | rfl | rfl | rfl | rfl | rfl | rfl <;> assumption
    obtain ⟨gs, dg, s2', s3', kst, kg⟩ := S12
    have C12 : Box H12 [(pp, .lst [.ref c0, .ref c1]), (c1, .lst (j1.map V.int)), (c0, .lst (j0.map V.int)), (un, .lst [.int u0, .int u1]), (ii, .lst [.ref D0, .ref D1]), (D1, .lst (j1.map V.int)), (D0, .lst (j0.map V.int)), (g, .lst (gs.map V.int)), (st, .lst [.ref g, .int dg, .int s2', .int s3'])] := by
      refine ⟨pick o12.1 [0, 1, 2, 3, 5, 6, 7, 9, 10] 11 rfl (by decide), fun q hq => ?_⟩
      simp only [List.mem_cons, List.not_mem_nil, or_false] at hq
      rcases hq with rfl | rfl | rfl | rfl | rfl | rfl | rfl | rfl | rfl <;> assumption
    clear B12 o12 hpp hc1 hc0 hun hii hD0 hD1 kst kg
    -- events
    refine ⟨_, rfl, _, _, _, _, rfl, rfl, SqL.of (C12.get 0), rfl, ?_⟩
    intro e0 x0 m1 m2 m3
    have C13 := (C12.new (v := .own e0) m2).new (v := .ins a.C_Events x0 []) (by rw [upd_ne m3.symm]; exact m1)
    refine ⟨e0, x0, c0, _, rfl, upd_same, C13.get 4, fun l0 r0 H14 nl nr nlr he hl hr' fr => ⟨rfl, ?_⟩⟩
    have C14 := C13.ev nl nr nlr he hl hr' fr
    clear C12 C13 m1 m2 m3 nl nr nlr he hl hr' fr
    refine ⟨_, rfl, _, _, _, _, rfl, rfl, SqL.of (C14.get 4), rfl, ?_⟩
    intro e1 x1 m1 m2 m3
    have C15 := (C14.new (v := .own e1) m2).new (v := .ins a.C_Events x1 []) (by rw [upd_ne m3.symm]; exact m1)
    refine ⟨e1, x1, c1, _, rfl, upd_same, C15.get 7, fun l1 r1 H16 nl nr nlr he hl hr' fr => ⟨rfl, ?_⟩⟩
    have C16 := C15.ev nl nr nlr he hl hr' fr
    clear C14 C15 m1 m2 m3 nl nr nlr he hl hr' fr
    refine ⟨(by show 2 ≤ sizeLine; decide), fun ev n17 => ?_⟩
    have C17 := C16.new (v := .lst [.ref e0, .ref e1]) n17
    generalize upd H16 ev (.lst [.ref e0, .ref e1]) = H17 at *
    clear C16 n17
    -- fuels
    refine ⟨_, rfl, _, _, _, _, rfl, rfl, SqL.of (C17.get 12), rfl, ?_⟩
    intro f0 y0 m1 m2 m3
    have C18 := ((C17.new (v := .own f0) m2).new (v := .ins a.C_Fuel y0 []) (by rw [upd_ne m3.symm]; exact m1)).upd 0 (v' := .ins a.C_Fuel y0 (fuf u0)) rfl
    refine ⟨f0, y0, u0, rfl, upd_same, ⟨rfl, ?_⟩⟩
    clear C17 m1 m2 m3
    refine ⟨_, rfl, _, _, _, _, rfl, rfl, SqL.of (C18.get 14), rfl, ?_⟩
    intro f1 y1 m1 m2 m3
    have C19 := ((C18.new (v := .own f1) m2).new (v := .ins a.C_Fuel y1 []) (by rw [upd_ne m3.symm]; exact m1)).upd 0 (v' := .ins a.C_Fuel y1 (fuf u1)) rfl
    refine ⟨f1, y1, u1, rfl, upd_same, ⟨rfl, ?_⟩⟩
    clear C18 m1 m2 m3
    refine ⟨(by show 2 ≤ sizeLine; decide), fun fl n20 => ?_⟩
    have C20 := C19.new (v := .lst [.ref f0, .ref f1]) n20
    generalize upd _ fl (.lst [.ref f0, .ref f1]) = H20 at *
    clear C19 n20
    -- passed != inputs
    refine ⟨_, rfl, _, rfl, _, _, dpTwo (C20.get 14) (C20.get 16) (C20.get 15), dpTwo (C20.get 18) (C20.get 20) (C20.get 19), sh_two _ _, sh_two _ _, _, rfl, ?_⟩
    rw [SeqAt.eqv_refl _ (cl_two j0 j1)]
    refine iteF ?_
    refine ⟨_, rfl, _, _, _, .ref c0, rfl, rfl, SqL.of (C20.get 14), rfl, .inl ⟨rfl, _, SqL.of (C20.get 16)⟩, c0, _, 0, _, rfl, rfl, C20.get 16, ?_, by decide, by decide, ?_⟩
    · refine small1000 ?_
      have : (j0.length : Int) ≤ 200 := by cases lg <;> simp at hj0 <;> omega
      simp; omega
    have C21 := C20.upd 16 (v' := .lst (((j0.map V.int).take (0 : Int).toNat) ++ [.int 77] ++ ((j0.map V.int).drop (0 : Int).toNat))) rfl
    refine ⟨_, rfl, _, _, _, .ref c1, rfl, rfl, SqL.of (C21.get 14), rfl, .inl ⟨rfl, _, SqL.of (C21.get 15)⟩, c1, _, _, rfl, rfl, C21.get 15, small1000 (by simp; omega), ?_⟩
    have C22 := C21.upd 15 (v' := .lst (j1.map V.int ++ [.int 78])) rfl
    generalize upd (upd H20 _ _) c1 (.lst (j1.map V.int ++ [.int 78])) = H22 at *
    clear C20 C21
    -- taken, due, kept
    refine ⟨(by show 2 ≤ sizeLine; decide), fun tk n23 => ?_⟩
    have C23 := C22.new (v := .lst [.int 0, .int 0]) n23
    refine ⟨by decide, fun d0 n24 => ?_⟩
    have C24 := C23.new (v := .lst []) n24
    refine ⟨by decide, fun d1 n25 => ?_⟩
    have C25 := C24.new (v := .lst []) n25
    refine ⟨(by show 2 ≤ sizeLine; decide), fun dd n26 => ?_⟩
    have C26 := C25.new (v := .lst [.ref d0, .ref d1]) n26
    refine ⟨by decide, fun kp n27 => ?_⟩
    have C27 := C26.new (v := .lst []) n27
    generalize upd _ kp (.lst []) = H27 at *
    clear C22 C23 C24 C25 C26 n23 n24 n25 n26 n27
    obtain ⟨L, hL⟩ : ∃ L : Lay, L = ⟨st, g, tk, un, kp, e0, e1, r0, r1, f0, f1, d0, d1, l0, l1, D0, D1, x0, x1, y0, y1, ev, fl, ii, dd⟩ := ⟨_, rfl⟩
    have ND : ([L.ev, L.fl, L.ii, L.dd, L.i0, L.i1, L.l0, L.l1] ++ L.mut).Nodup := by
      subst hL
      exact pick C27.nd [10, 5, 23, 1, 25, 24, 16, 12, 27, 26, 4, 22, 0, 17, 13, 15, 11, 8, 6, 3, 2] 28 rfl (by decide)
    have I0 : SInv a L j0 j1 0 0 0 u0 u1 [] [] [] [] [] H27 := by
      refine ⟨(List.nodup_append.mp ND).2.1, ?_, ?_, ?_, ?_, ?_, ?_, ?_, ?_, ?_, ?_, ?_, ?_, ⟨[], .nil, .nil, Nat.le_refl _⟩, ⟨[], .nil, .nil, Nat.le_refl _⟩, fun v hv => by simp at hv, ⟨?_, ?_, ?_, ?_, ?_, ?_, ?_, ?_, fun x hx hm => (List.nodup_append.mp ND).2.2 x hx x hm rfl⟩, Nat.zero_le _, Nat.zero_le _, u00, u10, by decide, Nat.le_refl _⟩
      · subst hL
        exact ⟨gs, dg, s2', s3', C27.get 27, C27.get 26⟩
      · subst hL; exact C27.get 17
      · subst hL; exact C27.get 13
      · subst hL; exact C27.get 15
      · subst hL; exact C27.get 11
      · subst hL; exact C27.get 3
      · subst hL; exact C27.get 2
      · subst hL; exact C27.get 8
      · subst hL; exact C27.get 6
      · subst hL; exact C27.get 4
      · subst hL; exact C27.get 22
      · subst hL; exact C27.get 0
      · subst hL; exact C27.get 10
      · subst hL; exact C27.get 5
      · subst hL; exact C27.get 23
      · subst hL; exact C27.get 1
      · subst hL; exact C27.get 25
      · subst hL; exact C27.get 24
      · subst hL; exact C27.get 16
      · subst hL; exact C27.get 12
    obtain ⟨hst, hg⟩ : st = L.st ∧ g = L.g := by subst hL; exact ⟨rfl, rfl⟩
    have hsg : ∀ x11 x12 x13 x14 x15 x16, sgm sa st ii un pp ev fl tk dd kp lg x11 x12 x13 x14 x15 x16 = sgm sa L.st L.ii L.un pp L.ev L.fl L.tk L.dd L.kp lg x11 x12 x13 x14 x15 x16 := by subst hL; exact fun _ _ _ _ _ _ => rfl
    subst hst hg
    refine ⟨_, rfl, L.st, L.g, 41, rfl, I0.stA, by decide, by decide, fun nn H28 nn0 nn1 S28 F28 => ?_⟩
    have I28 := I0.draw S28 F28
    refine ⟨nn, rfl, by omega, by omega, for_range (lo := 0) (n := nn.toNat)
      (fun i σ H' => ∃ t0 t1 u0 u1 a0 a1 w0 w1 ks x11 x12 x13 x14 x15 x16, σ = sgm sa L.st L.ii L.un pp L.ev L.fl L.tk L.dd L.kp lg x11 x12 x13 x14 x15 x16 ∧ SInv a L j0 j1 i t0 t1 u0 u1 a0 a1 w0 w1 ks H')
      ⟨0, 0, u0, u1, [], [], [], [], [], none, none, none, none, none, none, hsg _ _ _ _ _ _, I28⟩ ?_ ?_⟩
    · rintro n σ H' hn ⟨t0, t1, u0, u1, a0, a1, w0, w1, ks, x11, x12, x13, x14, x15, x16, rfl, I⟩
      have hn40 : n < 40 := by omega
      refine ⟨_, rfl, L.st, L.g, 2, rfl, I.stA, by decide, by decide, fun sd H1 sd0 sd1 S1 F1 => ?_⟩
      refine ⟨_, rfl, L.st, L.g, 4, rfl, S1, by decide, by decide, fun de H2 de0 de1 S2 F2 => ?_⟩
      have I2 := (I.draw S1 F1).draw S2 F2
      have hsd : sd = 0 ∨ sd = 1 := by omega
      have hks := I.hks
      refine ⟨fun σ H3 => ∃ t0 t1 u0 u1 a0 a1 w0 w1 x14 x15 x16, σ = sgm sa L.st L.ii L.un pp L.ev L.fl L.tk L.dd L.kp lg (some (.int (0 + (n : Int)))) (some (.int sd)) (some (.int de)) x14 x15 x16 ∧ SInv a L j0 j1 (n + 1) t0 t1 u0 u1 a0 a1 w0 w1 ks H3, ?_, ?_⟩
      · rcases hsd with rfl | rfl
        · -- side 0
          refine ⟨_, rfl, rfl, _, rfl, ite3 (fun e => ?_) (fun e => ?_)⟩
          · refine ⟨_, rfl, L.st, L.g, rfl, I2.stA, fun x H3 hx S3 F3 => ?_⟩
            have I3 := I2.draw S3 F3
            refine ⟨_, rfl, _, rfl, _, _, _, _, rfl, rfl, SqL.of I3.cst.hev, rfl, L.e0, L.x0, _, rfl, I3.he0, ev_put _ _ _, _, rfl, L.e0, L.x0, L.l0, L.r0, _, x, _, rfl, I3.he0, I3.hr0, Nat.le_trans (rw_len I3.row0).1 (by omega), fun z nz => ⟨rfl, _, rfl, iteF ?_⟩⟩
            have f1 : Frm [L.r0] H3 (upd (upd H3 z (.tup [.str "put", .int x])) L.r0 (.lst (a0 ++ [.ref z]))) := fun b o e h => by
              rw [upd_ne (fun e' => h (by simp [e'])), upd_ne (ne_of_none e nz)]; exact e
            have hdd' := f1 _ _ I3.cst.hdd (nin1 (I3.cst.apart L.dd L.r0 (by simp) (by simp [Lay.mut])))
            have hd' := f1 _ _ I3.hd0 (nin1 (neq I3.nd 11 7))
            refine ⟨_, rfl, _, rfl, _, _, _, _, rfl, rfl, SqL.of hdd', rfl, .inl ⟨rfl, _, SqL.of hd'⟩, _, rfl, (by show 2 ≤ sizeLine; decide), fun z2 nz2 => ⟨L.d0, w0, _, rfl, rfl, by rw [upd_ne (ne_of_none hd' nz2)]; exact hd', small1000 (Nat.le_trans (rw_len I3.row0).2 (by omega)), ?_⟩⟩
            exact ⟨_, _, _, _, _, _, _, _, _, _, _, rfl, I3.put0 (by omega) nz nz2⟩
          refine ⟨_, rfl, _, _, rfl, rfl, _, rfl, ite3 (fun e2 => ?_) (fun e2 => ?_)⟩
          · refine ⟨_, rfl, _, rfl, _, _, _, _, rfl, rfl, SqL.of I2.cst.hev, rfl, _, rfl, _, rfl, _, _, _, _, rfl, rfl, SqL.of I2.cst.hii, rfl, _, rfl, _, rfl, _, _, _, _, rfl, rfl, SqL.of I2.htk, rfl, _, rfl, _, rfl, _, _, _, _, rfl, rfl, SqL.of I2.cst.hdd, rfl,
              L.e0, L.x0, L.l0, L.r0, L.i0, L.d0, t0, j0, a0, w0, rfl, I2.he0, I2.cst.hl0, I2.hr0, Nat.le_trans (rw_len I2.row0).1 (by omega), I2.ht0, I2.cst.hi0, I2.hd0, Nat.le_trans (rw_len I2.row0).2 (by omega), neq I2.nd 11 7,
              I2.cst.apart L.i0 L.r0 (by simp) (by simp [Lay.mut]), I2.cst.apart L.i0 L.d0 (by simp) (by simp [Lay.mut]), fun he H3 s3 => ⟨_, rfl, iteF ?_⟩, fun x hx q q' H3 nq nq' g1 g2 g3 g4 g5 g6 => ⟨_, rfl, iteF ?_⟩⟩
            · have I3 := (I2.same s3).more (by omega)
              refine ⟨_, rfl, _, rfl, _, _, _, _, rfl, rfl, SqL.of I3.htk, rfl, _, _, rfl, rfl, _, rfl, _, rfl, _, _, _, _, rfl, rfl, SqL.of I3.cst.hii, rfl, _, _, rfl, .inl (SqL.of I3.cst.hi0), _, _, rfl, _, rfl, _, rfl, _, _, _, _, rfl, rfl, I3.htk, rfl, ?_⟩
              refine ⟨t0, t1, u0, u1, a0, a1, w0, w1, _, _, _, rfl, ?_⟩
              show SInv a L j0 j1 (n + 1) t0 t1 u0 u1 a0 a1 w0 w1 ks (upd H3 L.tk (.lst [V.int (if ((j0.map V.int).length : Int) < (t0 : Int) + 1 then ((j0.map V.int).length : Int) else (t0 : Int) + 1), V.int (t1 : Int)]))
              have e3 : (if ((j0.map V.int).length : Int) < (t0 : Int) + 1 then ((j0.map V.int).length : Int) else (t0 : Int) + 1) = (t0 : Int) := by
                rw [List.length_map, if_pos (by omega)]; omega
              rw [e3, upd_self I3.htk]
              exact I3
            · have hlt : t0 < j0.length := (List.getElem?_eq_some_iff.mp hx).1
              have htk' := g6 _ _ I2.htk (neq I2.nd 2 5) (neq I2.nd 2 7) (neq I2.nd 2 11)
              have hii' := g6 _ _ I2.cst.hii (I2.cst.apart L.ii L.e0 (by simp) (by simp [Lay.mut])) (I2.cst.apart L.ii L.r0 (by simp) (by simp [Lay.mut])) (I2.cst.apart L.ii L.d0 (by simp) (by simp [Lay.mut]))
              have hi' := g6 _ _ I2.cst.hi0 (I2.cst.apart L.i0 L.e0 (by simp) (by simp [Lay.mut])) (I2.cst.apart L.i0 L.r0 (by simp) (by simp [Lay.mut])) (I2.cst.apart L.i0 L.d0 (by simp) (by simp [Lay.mut]))
              refine ⟨_, rfl, _, rfl, _, _, _, _, rfl, rfl, SqL.of htk', rfl, _, _, rfl, rfl, _, rfl, _, rfl, _, _, _, _, rfl, rfl, SqL.of hii', rfl, _, _, rfl, .inl (SqL.of hi'), _, _, rfl, _, rfl, _, rfl, _, _, _, _, rfl, rfl, htk', rfl, ?_⟩
              have I3 := I2.get0 (by omega) hlt g1 g2 g3 g4 g5 g6
              refine ⟨t0 + 1, t1, u0, u1, a0 ++ [.ref q], a1, w0 ++ [.ref q'], w1, _, _, _, rfl, ?_⟩
              show SInv a L j0 j1 (n + 1) _ _ u0 u1 _ _ _ _ ks (upd H3 L.tk (.lst [V.int (if ((j0.map V.int).length : Int) < (t0 : Int) + 1 then ((j0.map V.int).length : Int) else (t0 : Int) + 1), V.int (t1 : Int)]))
              have e3 : (if ((j0.map V.int).length : Int) < (t0 : Int) + 1 then ((j0.map V.int).length : Int) else (t0 : Int) + 1) = (t0 : Int) + 1 := by
                rw [List.length_map, if_neg (by omega)]
              rw [e3]
              exact I3
          · refine ⟨_, rfl, _, rfl, _, _, _, _, rfl, rfl, SqL.of I2.cst.hfl, rfl, _, rfl, _, rfl, _, _, _, _, rfl, rfl, SqL.of I2.hun, rfl, L.f0, L.y0, u0, rfl, I2.hf0, fun H3 g1 g6 => ⟨_, rfl, iteF ?_⟩⟩
            have hun' := g6 _ _ I2.hun (neq I2.nd 3 9)
            refine ⟨_, rfl, _, rfl, _, _, _, _, rfl, rfl, SqL.of hun', rfl, _, _, rfl, rfl, _, _, rfl, _, rfl, _, rfl, _, _, _, _, rfl, rfl, hun', rfl, ?_⟩
            have I3 := (I2.tick0 g1 g6).more (by omega)
            refine ⟨t0, t1, (if u0 = 0 then 0 else u0 - 1), u1, a0, a1, w0, w1, _, _, _, rfl, ?_⟩
            show SInv a L j0 j1 (n + 1) t0 t1 _ _ a0 a1 w0 w1 ks (upd H3 L.un (.lst [V.int (if u0 - 1 > 0 then u0 - 1 else 0), V.int u1]))
            have e3 : (if u0 - 1 > 0 then u0 - 1 else 0) = (if u0 = 0 then 0 else u0 - 1) := by
              have := I2.hu0
              split <;> split <;> omega
            rw [e3]
            exact I3

        · -- side 1
          refine ⟨_, rfl, rfl, _, rfl, ite3 (fun e => ?_) (fun e => ?_)⟩
          · refine ⟨_, rfl, L.st, L.g, rfl, I2.stA, fun x H3 hx S3 F3 => ?_⟩
            have I3 := I2.draw S3 F3
            refine ⟨_, rfl, _, rfl, _, _, _, _, rfl, rfl, SqL.of I3.cst.hev, rfl, L.e1, L.x1, _, rfl, I3.he1, ev_put _ _ _, _, rfl, L.e1, L.x1, L.l1, L.r1, _, x, _, rfl, I3.he1, I3.hr1, Nat.le_trans (rw_len I3.row1).1 (by omega), fun z nz => ⟨rfl, _, rfl, iteF ?_⟩⟩
            have f1 : Frm [L.r1] H3 (upd (upd H3 z (.tup [.str "put", .int x])) L.r1 (.lst (a1 ++ [.ref z]))) := fun b o e h => by
              rw [upd_ne (fun e' => h (by simp [e'])), upd_ne (ne_of_none e nz)]; exact e
            have hdd' := f1 _ _ I3.cst.hdd (nin1 (I3.cst.apart L.dd L.r1 (by simp) (by simp [Lay.mut])))
            have hd' := f1 _ _ I3.hd1 (nin1 (neq I3.nd 12 8))
            refine ⟨_, rfl, _, rfl, _, _, _, _, rfl, rfl, SqL.of hdd', rfl, .inl ⟨rfl, _, SqL.of hd'⟩, _, rfl, (by show 2 ≤ sizeLine; decide), fun z2 nz2 => ⟨L.d1, w1, _, rfl, rfl, by rw [upd_ne (ne_of_none hd' nz2)]; exact hd', small1000 (Nat.le_trans (rw_len I3.row1).2 (by omega)), ?_⟩⟩
            exact ⟨_, _, _, _, _, _, _, _, _, _, _, rfl, I3.put1 (by omega) nz nz2⟩
          refine ⟨_, rfl, _, _, rfl, rfl, _, rfl, ite3 (fun e2 => ?_) (fun e2 => ?_)⟩
          · refine ⟨_, rfl, _, rfl, _, _, _, _, rfl, rfl, SqL.of I2.cst.hev, rfl, _, rfl, _, rfl, _, _, _, _, rfl, rfl, SqL.of I2.cst.hii, rfl, _, rfl, _, rfl, _, _, _, _, rfl, rfl, SqL.of I2.htk, rfl, _, rfl, _, rfl, _, _, _, _, rfl, rfl, SqL.of I2.cst.hdd, rfl,
              L.e1, L.x1, L.l1, L.r1, L.i1, L.d1, t1, j1, a1, w1, rfl, I2.he1, I2.cst.hl1, I2.hr1, Nat.le_trans (rw_len I2.row1).1 (by omega), I2.ht1, I2.cst.hi1, I2.hd1, Nat.le_trans (rw_len I2.row1).2 (by omega), neq I2.nd 12 8,
              I2.cst.apart L.i1 L.r1 (by simp) (by simp [Lay.mut]), I2.cst.apart L.i1 L.d1 (by simp) (by simp [Lay.mut]), fun he H3 s3 => ⟨_, rfl, iteF ?_⟩, fun x hx q q' H3 nq nq' g1 g2 g3 g4 g5 g6 => ⟨_, rfl, iteF ?_⟩⟩
            · have I3 := (I2.same s3).more (by omega)
              refine ⟨_, rfl, _, rfl, _, _, _, _, rfl, rfl, SqL.of I3.htk, rfl, _, _, rfl, rfl, _, rfl, _, rfl, _, _, _, _, rfl, rfl, SqL.of I3.cst.hii, rfl, _, _, rfl, .inl (SqL.of I3.cst.hi1), _, _, rfl, _, rfl, _, rfl, _, _, _, _, rfl, rfl, I3.htk, rfl, ?_⟩
              refine ⟨t0, t1, u0, u1, a0, a1, w0, w1, _, _, _, rfl, ?_⟩
              show SInv a L j0 j1 (n + 1) t0 t1 u0 u1 a0 a1 w0 w1 ks (upd H3 L.tk (.lst [V.int (t0 : Int), V.int (if ((j1.map V.int).length : Int) < (t1 : Int) + 1 then ((j1.map V.int).length : Int) else (t1 : Int) + 1)]))
              have e3 : (if ((j1.map V.int).length : Int) < (t1 : Int) + 1 then ((j1.map V.int).length : Int) else (t1 : Int) + 1) = (t1 : Int) := by
                rw [List.length_map, if_pos (by omega)]; omega
              rw [e3, upd_self I3.htk]
              exact I3
            · have hlt : t1 < j1.length := (List.getElem?_eq_some_iff.mp hx).1
              have htk' := g6 _ _ I2.htk (neq I2.nd 2 6) (neq I2.nd 2 8) (neq I2.nd 2 12)
              have hii' := g6 _ _ I2.cst.hii (I2.cst.apart L.ii L.e1 (by simp) (by simp [Lay.mut])) (I2.cst.apart L.ii L.r1 (by simp) (by simp [Lay.mut])) (I2.cst.apart L.ii L.d1 (by simp) (by simp [Lay.mut]))
              have hi' := g6 _ _ I2.cst.hi1 (I2.cst.apart L.i1 L.e1 (by simp) (by simp [Lay.mut])) (I2.cst.apart L.i1 L.r1 (by simp) (by simp [Lay.mut])) (I2.cst.apart L.i1 L.d1 (by simp) (by simp [Lay.mut]))
              refine ⟨_, rfl, _, rfl, _, _, _, _, rfl, rfl, SqL.of htk', rfl, _, _, rfl, rfl, _, rfl, _, rfl, _, _, _, _, rfl, rfl, SqL.of hii', rfl, _, _, rfl, .inl (SqL.of hi'), _, _, rfl, _, rfl, _, rfl, _, _, _, _, rfl, rfl, htk', rfl, ?_⟩
              have I3 := I2.get1 (by omega) hlt g1 g2 g3 g4 g5 g6
              refine ⟨t0, t1 + 1, u0, u1, a0, a1 ++ [.ref q], w0, w1 ++ [.ref q'], _, _, _, rfl, ?_⟩
              show SInv a L j0 j1 (n + 1) _ _ u0 u1 _ _ _ _ ks (upd H3 L.tk (.lst [V.int (t0 : Int), V.int (if ((j1.map V.int).length : Int) < (t1 : Int) + 1 then ((j1.map V.int).length : Int) else (t1 : Int) + 1)]))
              have e3 : (if ((j1.map V.int).length : Int) < (t1 : Int) + 1 then ((j1.map V.int).length : Int) else (t1 : Int) + 1) = (t1 : Int) + 1 := by
                rw [List.length_map, if_neg (by omega)]
              rw [e3]
              exact I3
          · refine ⟨_, rfl, _, rfl, _, _, _, _, rfl, rfl, SqL.of I2.cst.hfl, rfl, _, rfl, _, rfl, _, _, _, _, rfl, rfl, SqL.of I2.hun, rfl, L.f1, L.y1, u1, rfl, I2.hf1, fun H3 g1 g6 => ⟨_, rfl, iteF ?_⟩⟩
            have hun' := g6 _ _ I2.hun (neq I2.nd 3 10)
            refine ⟨_, rfl, _, rfl, _, _, _, _, rfl, rfl, SqL.of hun', rfl, _, _, rfl, rfl, _, _, rfl, _, rfl, _, rfl, _, _, _, _, rfl, rfl, hun', rfl, ?_⟩
            have I3 := (I2.tick1 g1 g6).more (by omega)
            refine ⟨t0, t1, u0, (if u1 = 0 then 0 else u1 - 1), a0, a1, w0, w1, _, _, _, rfl, ?_⟩
            show SInv a L j0 j1 (n + 1) t0 t1 _ _ a0 a1 w0 w1 ks (upd H3 L.un (.lst [V.int u0, V.int (if u1 - 1 > 0 then u1 - 1 else 0)]))
            have e3 : (if u1 - 1 > 0 then u1 - 1 else 0) = (if u1 = 0 then 0 else u1 - 1) := by
              have := I2.hu1
              split <;> split <;> omega
            rw [e3]
            exact I3

      clear I I2 S1 S2 F1 F2 t0 t1 u0 u1 a0 a1 w0 w1 x11 x12 x13 x14 x15 x16
      rintro σ H3 ⟨t0, t1, u0, u1, a0, a1, w0, w1, x14, x15, x16, rfl, I⟩
      refine ⟨_, rfl, by decide, by decide, for_range (lo := 0) (n := 2)
        (fun _ σ H4 => ∃ x15, σ = sgm sa L.st L.ii L.un pp L.ev L.fl L.tk L.dd L.kp lg (some (.int (0 + (n : Int)))) (some (.int sd)) (some (.int de)) x14 x15 x16 ∧ SInv a L j0 j1 (n + 1) t0 t1 u0 u1 a0 a1 w0 w1 ks H4)
        ⟨x15, rfl, I⟩ ?_ ?_⟩
      · clear I
        rintro i σ H4 hi ⟨x15, rfl, I⟩
        obtain rfl | rfl : i = 0 ∨ i = 1 := by omega

        · -- k = 0
          obtain ⟨ds, r1, r2, rl⟩ := I.row0
          refine ⟨_, rfl, _, rfl, _, _, _, _, rfl, rfl, SqL.of I.cst.hev, rfl, L.e0, L.x0, _, rfl, I.he0, L.e0, L.x0, L.l0, L.r0, _, _, rfl, I.he0, I.hr0, fun z nz => ?_⟩
          have s1 := sN (Same.refl H4) nz (o := .tup a0)
          refine ⟨_, rfl, _, rfl, _, _, _, _, rfl, rfl, SqL.of (s1 _ _ I.cst.hdd), rfl, _, _, rfl, .inl ⟨SqL.of (s1 _ _ I.hd0), fun z2 nz2 => ?_⟩⟩
          have s2 := sN s1 nz2 (o := .tup w0)
          have I4 := I.same s2
          refine ⟨_, _, .tuple ds, rfl, .tup (SqT.of (by rw [upd_ne (ne_of_none upd_same nz2)]; exact upd_same)) (r1.keep (fun b xs e => s2 b _ e)).all, .tup (SqT.of upd_same) (r2.keep (fun b xs e => s2 b _ e)).all, ⟨fun d hd => r1.ok d hd, by have := I.hn; omega⟩, _, rfl, iteF ?_⟩
          refine ⟨_, rfl, _, rfl, _, _, _, _, rfl, rfl, SqL.of I4.cst.hfl, rfl, L.f0, L.y0, _, rfl, I4.hf0, L.f0, L.y0, u0, rfl, I4.hf0, _, rfl, _, rfl, _, _, _, _, rfl, rfl, SqL.of I4.hun, rfl, _, _, .int u0, rfl, .int _, .int _, True.intro, _, rfl, iteF ?_⟩
          exact ⟨_, rfl, I4⟩

        · -- k = 1
          obtain ⟨ds, r1, r2, rl⟩ := I.row1
          refine ⟨_, rfl, _, rfl, _, _, _, _, rfl, rfl, SqL.of I.cst.hev, rfl, L.e1, L.x1, _, rfl, I.he1, L.e1, L.x1, L.l1, L.r1, _, _, rfl, I.he1, I.hr1, fun z nz => ?_⟩
          have s1 := sN (Same.refl H4) nz (o := .tup a1)
          refine ⟨_, rfl, _, rfl, _, _, _, _, rfl, rfl, SqL.of (s1 _ _ I.cst.hdd), rfl, _, _, rfl, .inl ⟨SqL.of (s1 _ _ I.hd1), fun z2 nz2 => ?_⟩⟩
          have s2 := sN s1 nz2 (o := .tup w1)
          have I4 := I.same s2
          refine ⟨_, _, .tuple ds, rfl, .tup (SqT.of (by rw [upd_ne (ne_of_none upd_same nz2)]; exact upd_same)) (r1.keep (fun b xs e => s2 b _ e)).all, .tup (SqT.of upd_same) (r2.keep (fun b xs e => s2 b _ e)).all, ⟨fun d hd => r1.ok d hd, by have := I.hn; omega⟩, _, rfl, iteF ?_⟩
          refine ⟨_, rfl, _, rfl, _, _, _, _, rfl, rfl, SqL.of I4.cst.hfl, rfl, L.f1, L.y1, _, rfl, I4.hf1, L.f1, L.y1, u1, rfl, I4.hf1, _, rfl, _, rfl, _, _, _, _, rfl, rfl, SqL.of I4.hun, rfl, _, _, .int u1, rfl, .int _, .int _, True.intro, _, rfl, iteF ?_⟩
          exact ⟨_, rfl, I4⟩
      · clear I
        rintro σ H4 ⟨x15, rfl, I⟩
        rcases hsd with rfl | rfl
        · -- kept 0
          obtain ⟨ds, r1, r2, rl⟩ := I.row0
          refine ⟨_, rfl, .inl ⟨rfl, _, SqL.of I.hkp⟩, _, rfl, _, rfl, _, _, _, _, rfl, rfl, SqL.of I.cst.hev, rfl, L.e0, L.x0, _, rfl, I.he0, L.e0, L.x0, L.l0, L.r0, _, _, rfl, I.he0, I.hr0, fun z nz => ?_⟩
          have s1 := sN (Same.refl H4) nz (o := .tup a0)
          refine ⟨_, rfl, _, rfl, _, _, _, _, rfl, rfl, SqL.of (s1 _ _ I.cst.hdd), rfl, _, _, rfl, .inl ⟨SqL.of (s1 _ _ I.hd0), fun z2 nz2 => ⟨(by show 2 ≤ sizeLine; decide), fun z3 nz3 => ?_⟩⟩⟩
          have s2 := sN s1 nz2 (o := .tup w0)
          have s3 := sN s2 nz3 (o := .lst [.ref z, .ref z2])
          have I4 := I.same s3
          refine ⟨L.kp, ks, _, rfl, rfl, I4.hkp, small1000 (by omega), ?_⟩
          have h1 : upd (upd (upd H4 z (.tup a0)) z2 (.tup w0)) z3 (.lst [.ref z, .ref z2]) z = some (.tup a0) := by
            have e1 : upd (upd H4 z (.tup a0)) z2 (.tup w0) z = some (.tup a0) := by rw [upd_ne (ne_of_none upd_same nz2)]; exact upd_same
            rw [upd_ne (ne_of_none e1 nz3)]; exact e1
          have h2 : upd (upd (upd H4 z (.tup a0)) z2 (.tup w0)) z3 (.lst [.ref z, .ref z2]) z2 = some (.tup w0) := by
            rw [upd_ne (ne_of_none upd_same nz3)]; exact upd_same
          refine ⟨_, _, _, _, _, _, _, _, _, _, _, _, _, _, _, rfl, I4.kept_new (by omega) (fun hm => ?_) upd_same h1 h2 (r1.keep (fun b xs e => s3 b _ e)) (r2.keep (fun b xs e => s3 b _ e)) (by have := I.hn; omega)⟩
          obtain ⟨o, ho⟩ := (I.same s2).alive hm
          rw [nz3] at ho
          cases ho
        · -- kept 1
          obtain ⟨ds, r1, r2, rl⟩ := I.row1
          refine ⟨_, rfl, .inl ⟨rfl, _, SqL.of I.hkp⟩, _, rfl, _, rfl, _, _, _, _, rfl, rfl, SqL.of I.cst.hev, rfl, L.e1, L.x1, _, rfl, I.he1, L.e1, L.x1, L.l1, L.r1, _, _, rfl, I.he1, I.hr1, fun z nz => ?_⟩
          have s1 := sN (Same.refl H4) nz (o := .tup a1)
          refine ⟨_, rfl, _, rfl, _, _, _, _, rfl, rfl, SqL.of (s1 _ _ I.cst.hdd), rfl, _, _, rfl, .inl ⟨SqL.of (s1 _ _ I.hd1), fun z2 nz2 => ⟨(by show 2 ≤ sizeLine; decide), fun z3 nz3 => ?_⟩⟩⟩
          have s2 := sN s1 nz2 (o := .tup w1)
          have s3 := sN s2 nz3 (o := .lst [.ref z, .ref z2])
          have I4 := I.same s3
          refine ⟨L.kp, ks, _, rfl, rfl, I4.hkp, small1000 (by omega), ?_⟩
          have h1 : upd (upd (upd H4 z (.tup a1)) z2 (.tup w1)) z3 (.lst [.ref z, .ref z2]) z = some (.tup a1) := by
            have e1 : upd (upd H4 z (.tup a1)) z2 (.tup w1) z = some (.tup a1) := by rw [upd_ne (ne_of_none upd_same nz2)]; exact upd_same
            rw [upd_ne (ne_of_none e1 nz3)]; exact e1
          have h2 : upd (upd (upd H4 z (.tup a1)) z2 (.tup w1)) z3 (.lst [.ref z, .ref z2]) z2 = some (.tup w1) := by
            rw [upd_ne (ne_of_none upd_same nz3)]; exact upd_same
          refine ⟨_, _, _, _, _, _, _, _, _, _, _, _, _, _, _, rfl, I4.kept_new (by omega) (fun hm => ?_) upd_same h1 h2 (r1.keep (fun b xs e => s3 b _ e)) (r2.keep (fun b xs e => s3 b _ e)) (by have := I.hn; omega)⟩
          obtain ⟨o, ho⟩ := (I.same s2).alive hm
          rw [nz3] at ho
          cases ho
    · rintro σ H' ⟨t0, t1, u0, u1, a0, a1, w0, w1, ks, x11, x12, x13, x14, x15, x16, rfl, I⟩
      refine ⟨_, rfl, L.kp, rfl, ⟨_, SqL.of I.hkp⟩, for_list (K := K) (a := L.kp) (xs := ks) (fun _ σ H4 => H4 = H' ∧ ∃ x16, σ = sgm sa L.st L.ii L.un pp L.ev L.fl L.tk L.dd L.kp lg x11 x12 x13 x14 x15 x16) ⟨rfl, x16, rfl⟩ (fun i σ H4 _ ⟨h, _⟩ => by rw [h]; exact SqL.of I.hkp) ?_ ?_⟩
      · rintro i x σ H4 hi ⟨rfl, x16, rfl⟩
        obtain ⟨q0, p1, p2, v1, v2, ds, rfl, hq, h1, h2, h3, r1, r2, hl⟩ := I.kept x (List.mem_of_getElem? hi)
        refine ⟨_, rfl, _, _, _, _, rfl, rfl, SqL.of h1, rfl, _, rfl, _, _, _, _, rfl, rfl, SqL.of h1, rfl, _, _, .tuple ds, rfl, .tup (SqT.of h2) r1.all, .tup (SqT.of h3) r2.all, ⟨fun d hd => r1.ok d hd, by omega⟩, _, rfl, iteF ?_⟩
        exact ⟨rfl, _, rfl⟩
      · rintro σ H4 ⟨rfl, x16, rfl⟩
        obtain ⟨ds, r1, r2, rl⟩ := I.row0
        refine ⟨_, rfl, _, _, _, _, rfl, rfl, SqL.of I.cst.hev, rfl, L.e0, L.x0, _, rfl, I.he0, L.e0, L.x0, L.l0, L.r0, _, _, rfl, I.he0, I.hr0, fun z nz => ?_⟩
        have s1 := sN (Same.refl H4) nz (o := .tup a0)
        refine ⟨_, rfl, _, _, _, _, rfl, rfl, SqL.of (s1 _ _ I.cst.hdd), rfl, _, _, rfl, .inl ⟨SqL.of (s1 _ _ I.hd0), fun z2 nz2 => ?_⟩⟩
        have s2 := sN s1 nz2 (o := .tup w0)
        have I4 := I.same s2
        refine ⟨_, _, .tuple ds, rfl, .tup (SqT.of (by rw [upd_ne (ne_of_none upd_same nz2)]; exact upd_same)) (r1.keep (fun b xs e => s2 b _ e)).all, .tup (SqT.of upd_same) (r2.keep (fun b xs e => s2 b _ e)).all, ⟨fun d hd => r1.ok d hd, by have := I.hn; omega⟩, _, rfl, iteT ?_⟩
        refine ⟨_, rfl, _, _, _, _, rfl, rfl, SqL.of I4.cst.hfl, rfl, L.f1, L.y1, _, rfl, I4.hf1, L.f1, L.y1, u1, rfl, I4.hf1, _, rfl, _, _, _, _, rfl, rfl, SqL.of I4.hun, rfl, _, _, .int u1, rfl, .int _, .int _, True.intro, ?_⟩
        exact q _

end
theorem all_mk {l : PySem.W.OpenLaw} {w : World} {K : PySem.W.Frag} {h : Heap} {mg : Str → Option Value} {fa : Addr} (X : K.In h) (G : h.Ns mainGlobals mg) (hfa : mg "law" = some (.ref fa))
    {C_AdaError : Addr} (aC_AdaError : PySem.W.nsIn K mainGlobals "AdaError" = some (some (.ref C_AdaError)))
    (x_AdaError : PySem.W.excIn K C_AdaError [.type "ValueError", .type "Exception", .type "BaseException", .type "object"] "ValueError.__new__" = true) (kC_AdaError : PySem.W.keepIn K (.ref C_AdaError) = true) (s1_AdaError : PySem.W.subIn K (.ref C_AdaError) (.type "BaseException") = some true) (ty_AdaError : PySem.W.typeIn K (.ref C_AdaError) = some (.type "type")) (ic_AdaError : PySem.W.isClsIn K C_AdaError = true)
    {C_NoInput : Addr} (aC_NoInput : PySem.W.nsIn K mainGlobals "NoInput" = some (some (.ref C_NoInput)))
    (x_NoInput : PySem.W.excIn K C_NoInput [.type "ValueError", .type "Exception", .type "BaseException", .type "object"] "ValueError.__new__" = true) (kC_NoInput : PySem.W.keepIn K (.ref C_NoInput) = true) (s1_NoInput : PySem.W.subIn K (.ref C_NoInput) (.type "BaseException") = some true) (ty_NoInput : PySem.W.typeIn K (.ref C_NoInput) = some (.type "type")) (ic_NoInput : PySem.W.isClsIn K C_NoInput = true)
    (h1_NoInput : PySem.W.findIn K (.ref C_NoInput) "__getattribute__" = some (some (.builtin "BaseException.__getattribute__"))) (h2_NoInput : PySem.W.findIn K (.ref C_NoInput) "__getattr__" = some none) (h3_NoInput : PySem.W.hasDictIn K C_NoInput = true) (h4_NoInput : PySem.W.findIn K (.ref C_NoInput) "__class__" = some (some (.builtin "object.__class__"))) (h5_NoInput : PySem.W.specialIn K (.builtin "object.__class__") "__get__" = some (some (.builtin "getset_descriptor.__get__"))) (h6_NoInput : PySem.W.takesIn K (.builtin "object.__class__") = some true) (h7_NoInput : PySem.W.mroIn K C_NoInput (.type "object") = some true)
    {C_OutOfFuel : Addr} (aC_OutOfFuel : PySem.W.nsIn K mainGlobals "OutOfFuel" = some (some (.ref C_OutOfFuel)))
    (x_OutOfFuel : PySem.W.excIn K C_OutOfFuel [.type "ValueError", .type "Exception", .type "BaseException", .type "object"] "ValueError.__new__" = true) (kC_OutOfFuel : PySem.W.keepIn K (.ref C_OutOfFuel) = true) (s1_OutOfFuel : PySem.W.subIn K (.ref C_OutOfFuel) (.type "BaseException") = some true) (ty_OutOfFuel : PySem.W.typeIn K (.ref C_OutOfFuel) = some (.type "type")) (ic_OutOfFuel : PySem.W.isClsIn K C_OutOfFuel = true)
    (h1_OutOfFuel : PySem.W.findIn K (.ref C_OutOfFuel) "__getattribute__" = some (some (.builtin "BaseException.__getattribute__"))) (h2_OutOfFuel : PySem.W.findIn K (.ref C_OutOfFuel) "__getattr__" = some none) (h3_OutOfFuel : PySem.W.hasDictIn K C_OutOfFuel = true) (h4_OutOfFuel : PySem.W.findIn K (.ref C_OutOfFuel) "__class__" = some (some (.builtin "object.__class__"))) (h5_OutOfFuel : PySem.W.specialIn K (.builtin "object.__class__") "__get__" = some (some (.builtin "getset_descriptor.__get__"))) (h6_OutOfFuel : PySem.W.takesIn K (.builtin "object.__class__") = some true) (h7_OutOfFuel : PySem.W.mroIn K C_OutOfFuel (.type "object") = some true)
    {C_Events : Addr} (aC_Events : PySem.W.nsIn K mainGlobals "Events" = some (some (.ref C_Events)))
    (pg_Events : PySem.W.plainGet K C_Events Str.empty = true) (hd_Events : PySem.W.hasDictIn K C_Events = true) (po_Events : PySem.W.plainOver K C_Events = true) (sa_Events : PySem.W.findIn K (.ref C_Events) "__setattr__" = some (some (.builtin "object.__setattr__"))) (mk_Events : PySem.W.makesIn K C_Events = true) (kC_Events : PySem.W.keepIn K (.ref C_Events) = true)
    (n_Events__inputs : PySem.W.findIn K (.ref C_Events) "_inputs" = some none)
    (n_Events__taken : PySem.W.findIn K (.ref C_Events) "_taken" = some none)
    (n_Events__rows : PySem.W.findIn K (.ref C_Events) "_rows" = some none)
    {C_Fuel : Addr} (aC_Fuel : PySem.W.nsIn K mainGlobals "Fuel" = some (some (.ref C_Fuel)))
    (pg_Fuel : PySem.W.plainGet K C_Fuel Str.empty = true) (hd_Fuel : PySem.W.hasDictIn K C_Fuel = true) (po_Fuel : PySem.W.plainOver K C_Fuel = true) (sa_Fuel : PySem.W.findIn K (.ref C_Fuel) "__setattr__" = some (some (.builtin "object.__setattr__"))) (mk_Fuel : PySem.W.makesIn K C_Fuel = true) (kC_Fuel : PySem.W.keepIn K (.ref C_Fuel) = true)
    (n_Fuel__left : PySem.W.findIn K (.ref C_Fuel) "_left" = some none)
    (e_NoInput_AdaError : PySem.W.subIn K (.ref C_NoInput) (.ref C_AdaError) = some true)
    (e_OutOfFuel_AdaError : PySem.W.subIn K (.ref C_OutOfFuel) (.ref C_AdaError) = some true)
    (zz_NoInput : PySem.W.subIn K (.ref C_NoInput) (.ref C_NoInput) = some true)
    (zz_OutOfFuel : PySem.W.subIn K (.ref C_OutOfFuel) (.ref C_OutOfFuel) = some true)
    (i_NoInput_NoInput : PySem.W.subIn K (.ref C_NoInput) (.ref C_NoInput) = some true)
    (i_NoInput_OutOfFuel : PySem.W.subIn K (.ref C_NoInput) (.ref C_OutOfFuel) = some false)
    (i_NoInput_ValueError : PySem.W.subIn K (.ref C_NoInput) (.type "ValueError") = some true)
    (i_OutOfFuel_NoInput : PySem.W.subIn K (.ref C_OutOfFuel) (.ref C_NoInput) = some false)
    (i_OutOfFuel_OutOfFuel : PySem.W.subIn K (.ref C_OutOfFuel) (.ref C_OutOfFuel) = some true)
    (i_OutOfFuel_ValueError : PySem.W.subIn K (.ref C_OutOfFuel) (.type "ValueError") = some true)
    {f_Events___init__ : Addr} {oc_Events___init__ : Value} {od_Events___init__ an_Events___init__ : Option Addr} {sl_Events___init__ : Array (Option Value)} {kV_Events___init__ dc_Events___init__ pm_Events___init__ cd_Events___init__ ct_Events___init__ : Value}
    (a_Events___init__ : PySem.W.findIn K (.ref C_Events) "__init__" = some (some (.ref f_Events___init__)))
    (i_Events___init__ : PySem.W.isFn K (.ref f_Events___init__) = true)
    (l_Events___init__ : K.lookup f_Events___init__ = some ⟨oc_Events___init__, od_Events___init__, .func (PySem.W.fnOf "__init__" "Events.__init__" (defArgs s_Events___init__) (defBody s_Events___init__) (defScope s_Events___init__) .none kV_Events___init__ dc_Events___init__ pm_Events___init__ an_Events___init__ cd_Events___init__ ct_Events___init__), sl_Events___init__⟩)
    (c_Events___init__ : PySem.W.codeIn K cd_Events___init__ "Events.__init__" = true)
    (k_Events___init__ : PySem.W.keepIn K (.ref f_Events___init__) = true)
    {f_Events_put : Addr} {oc_Events_put : Value} {od_Events_put an_Events_put : Option Addr} {sl_Events_put : Array (Option Value)} {kV_Events_put dc_Events_put pm_Events_put cd_Events_put ct_Events_put : Value}
    (a_Events_put : PySem.W.findIn K (.ref C_Events) "put" = some (some (.ref f_Events_put)))
    (i_Events_put : PySem.W.isFn K (.ref f_Events_put) = true)
    (l_Events_put : K.lookup f_Events_put = some ⟨oc_Events_put, od_Events_put, .func (PySem.W.fnOf "put" "Events.put" (defArgs s_Events_put) (defBody s_Events_put) (defScope s_Events_put) .none kV_Events_put dc_Events_put pm_Events_put an_Events_put cd_Events_put ct_Events_put), sl_Events_put⟩)
    (c_Events_put : PySem.W.codeIn K cd_Events_put "Events.put" = true)
    (k_Events_put : PySem.W.keepIn K (.ref f_Events_put) = true)
    {f_Events_get : Addr} {oc_Events_get : Value} {od_Events_get an_Events_get : Option Addr} {sl_Events_get : Array (Option Value)} {kV_Events_get dc_Events_get pm_Events_get cd_Events_get ct_Events_get : Value}
    (a_Events_get : PySem.W.findIn K (.ref C_Events) "get" = some (some (.ref f_Events_get)))
    (i_Events_get : PySem.W.isFn K (.ref f_Events_get) = true)
    (l_Events_get : K.lookup f_Events_get = some ⟨oc_Events_get, od_Events_get, .func (PySem.W.fnOf "get" "Events.get" (defArgs s_Events_get) (defBody s_Events_get) (defScope s_Events_get) .none kV_Events_get dc_Events_get pm_Events_get an_Events_get cd_Events_get ct_Events_get), sl_Events_get⟩)
    (c_Events_get : PySem.W.codeIn K cd_Events_get "Events.get" = true)
    (k_Events_get : PySem.W.keepIn K (.ref f_Events_get) = true)
    {f_Events_rows : Addr} {oc_Events_rows : Value} {od_Events_rows an_Events_rows : Option Addr} {sl_Events_rows : Array (Option Value)} {kV_Events_rows dc_Events_rows pm_Events_rows cd_Events_rows ct_Events_rows : Value}
    {p_Events_rows : Addr} {rs_Events_rows : List Value} (a_Events_rows : PySem.W.findIn K (.ref C_Events) "rows" = some (some (.ref p_Events_rows)))
    (g_Events_rows : PySem.W.specialIn K (.ref p_Events_rows) "__get__" = some (some (.builtin "property.__get__")))
    (t_Events_rows : PySem.W.takesIn K (.ref p_Events_rows) = some true)
    (r_Events_rows : PySem.W.recIn K p_Events_rows "property" = some (.ref f_Events_rows :: rs_Events_rows))
    (l_Events_rows : K.lookup f_Events_rows = some ⟨oc_Events_rows, od_Events_rows, .func (PySem.W.fnOf "rows" "Events.rows" (defArgs s_Events_rows) (defBody s_Events_rows) (defScope s_Events_rows) .none kV_Events_rows dc_Events_rows pm_Events_rows an_Events_rows cd_Events_rows ct_Events_rows), sl_Events_rows⟩)
    (c_Events_rows : PySem.W.codeIn K cd_Events_rows "Events.rows" = true)
    (k_Events_rows : PySem.W.keepIn K (.ref f_Events_rows) = true)
    {f_Fuel___init__ : Addr} {oc_Fuel___init__ : Value} {od_Fuel___init__ an_Fuel___init__ : Option Addr} {sl_Fuel___init__ : Array (Option Value)} {kV_Fuel___init__ dc_Fuel___init__ pm_Fuel___init__ cd_Fuel___init__ ct_Fuel___init__ : Value}
    (a_Fuel___init__ : PySem.W.findIn K (.ref C_Fuel) "__init__" = some (some (.ref f_Fuel___init__)))
    (i_Fuel___init__ : PySem.W.isFn K (.ref f_Fuel___init__) = true)
    (l_Fuel___init__ : K.lookup f_Fuel___init__ = some ⟨oc_Fuel___init__, od_Fuel___init__, .func (PySem.W.fnOf "__init__" "Fuel.__init__" (defArgs s_Fuel___init__) (defBody s_Fuel___init__) (defScope s_Fuel___init__) .none kV_Fuel___init__ dc_Fuel___init__ pm_Fuel___init__ an_Fuel___init__ cd_Fuel___init__ ct_Fuel___init__), sl_Fuel___init__⟩)
    (c_Fuel___init__ : PySem.W.codeIn K cd_Fuel___init__ "Fuel.__init__" = true)
    (k_Fuel___init__ : PySem.W.keepIn K (.ref f_Fuel___init__) = true)
    {f_Fuel_tick : Addr} {oc_Fuel_tick : Value} {od_Fuel_tick an_Fuel_tick : Option Addr} {sl_Fuel_tick : Array (Option Value)} {kV_Fuel_tick dc_Fuel_tick pm_Fuel_tick cd_Fuel_tick ct_Fuel_tick : Value}
    (a_Fuel_tick : PySem.W.findIn K (.ref C_Fuel) "tick" = some (some (.ref f_Fuel_tick)))
    (i_Fuel_tick : PySem.W.isFn K (.ref f_Fuel_tick) = true)
    (l_Fuel_tick : K.lookup f_Fuel_tick = some ⟨oc_Fuel_tick, od_Fuel_tick, .func (PySem.W.fnOf "tick" "Fuel.tick" (defArgs s_Fuel_tick) (defBody s_Fuel_tick) (defScope s_Fuel_tick) .none kV_Fuel_tick dc_Fuel_tick pm_Fuel_tick an_Fuel_tick cd_Fuel_tick ct_Fuel_tick), sl_Fuel_tick⟩)
    (c_Fuel_tick : PySem.W.codeIn K cd_Fuel_tick "Fuel.tick" = true)
    (k_Fuel_tick : PySem.W.keepIn K (.ref f_Fuel_tick) = true)
    {f_Fuel_remaining : Addr} {oc_Fuel_remaining : Value} {od_Fuel_remaining an_Fuel_remaining : Option Addr} {sl_Fuel_remaining : Array (Option Value)} {kV_Fuel_remaining dc_Fuel_remaining pm_Fuel_remaining cd_Fuel_remaining ct_Fuel_remaining : Value}
    {p_Fuel_remaining : Addr} {rs_Fuel_remaining : List Value} (a_Fuel_remaining : PySem.W.findIn K (.ref C_Fuel) "remaining" = some (some (.ref p_Fuel_remaining)))
    (g_Fuel_remaining : PySem.W.specialIn K (.ref p_Fuel_remaining) "__get__" = some (some (.builtin "property.__get__")))
    (t_Fuel_remaining : PySem.W.takesIn K (.ref p_Fuel_remaining) = some true)
    (r_Fuel_remaining : PySem.W.recIn K p_Fuel_remaining "property" = some (.ref f_Fuel_remaining :: rs_Fuel_remaining))
    (l_Fuel_remaining : K.lookup f_Fuel_remaining = some ⟨oc_Fuel_remaining, od_Fuel_remaining, .func (PySem.W.fnOf "remaining" "Fuel.remaining" (defArgs s_Fuel_remaining) (defBody s_Fuel_remaining) (defScope s_Fuel_remaining) .none kV_Fuel_remaining dc_Fuel_remaining pm_Fuel_remaining an_Fuel_remaining cd_Fuel_remaining ct_Fuel_remaining), sl_Fuel_remaining⟩)
    (c_Fuel_remaining : PySem.W.codeIn K cd_Fuel_remaining "Fuel.remaining" = true)
    (k_Fuel_remaining : PySem.W.keepIn K (.ref f_Fuel_remaining) = true)
    {f_law_start : Addr} {oc_law_start : Value} {od_law_start an_law_start : Option Addr} {sl_law_start : Array (Option Value)} {kV_law_start dc_law_start pm_law_start cd_law_start ct_law_start : Value}
    (a_law_start : PySem.W.nsIn K mainGlobals "_law_start" = some (some (.ref f_law_start)))
    (l_law_start : K.lookup f_law_start = some ⟨oc_law_start, od_law_start, .func (PySem.W.fnOf "_law_start" "_law_start" (defArgs s_law_start) (defBody s_law_start) (defScope s_law_start) .none kV_law_start dc_law_start pm_law_start an_law_start cd_law_start ct_law_start), sl_law_start⟩)
    (c_law_start : PySem.W.codeIn K cd_law_start "_law_start" = true)
    (k_law_start : PySem.W.keepIn K (.ref f_law_start) = true)
    {f_law_take : Addr} {oc_law_take : Value} {od_law_take an_law_take : Option Addr} {sl_law_take : Array (Option Value)} {kV_law_take dc_law_take pm_law_take cd_law_take ct_law_take : Value}
    (a_law_take : PySem.W.nsIn K mainGlobals "_law_take" = some (some (.ref f_law_take)))
    (l_law_take : K.lookup f_law_take = some ⟨oc_law_take, od_law_take, .func (PySem.W.fnOf "_law_take" "_law_take" (defArgs s_law_take) (defBody s_law_take) (defScope s_law_take) .none kV_law_take dc_law_take pm_law_take an_law_take cd_law_take ct_law_take), sl_law_take⟩)
    (c_law_take : PySem.W.codeIn K cd_law_take "_law_take" = true)
    (k_law_take : PySem.W.keepIn K (.ref f_law_take) = true)
    {f_law_word : Addr} {oc_law_word : Value} {od_law_word an_law_word : Option Addr} {sl_law_word : Array (Option Value)} {kV_law_word dc_law_word pm_law_word cd_law_word ct_law_word : Value}
    (a_law_word : PySem.W.nsIn K mainGlobals "_law_word" = some (some (.ref f_law_word)))
    (l_law_word : K.lookup f_law_word = some ⟨oc_law_word, od_law_word, .func (PySem.W.fnOf "_law_word" "_law_word" (defArgs s_law_word) (defBody s_law_word) (defScope s_law_word) .none kV_law_word dc_law_word pm_law_word an_law_word cd_law_word ct_law_word), sl_law_word⟩)
    (c_law_word : PySem.W.codeIn K cd_law_word "_law_word" = true)
    (k_law_word : PySem.W.keepIn K (.ref f_law_word) = true)
    {f_law_alike : Addr} {oc_law_alike : Value} {od_law_alike an_law_alike : Option Addr} {sl_law_alike : Array (Option Value)} {kV_law_alike dc_law_alike pm_law_alike cd_law_alike ct_law_alike : Value}
    (a_law_alike : PySem.W.nsIn K mainGlobals "_law_alike" = some (some (.ref f_law_alike)))
    (l_law_alike : K.lookup f_law_alike = some ⟨oc_law_alike, od_law_alike, .func (PySem.W.fnOf "_law_alike" "_law_alike" (defArgs s_law_alike) (defBody s_law_alike) (defScope s_law_alike) .none kV_law_alike dc_law_alike pm_law_alike an_law_alike cd_law_alike ct_law_alike), sl_law_alike⟩)
    (c_law_alike : PySem.W.codeIn K cd_law_alike "_law_alike" = true)
    (k_law_alike : PySem.W.keepIn K (.ref f_law_alike) = true)
    {f_law_constants : Addr} {oc_law_constants : Value} {od_law_constants an_law_constants : Option Addr} {sl_law_constants : Array (Option Value)} {kV_law_constants dc_law_constants pm_law_constants cd_law_constants ct_law_constants : Value}
    (a_law_constants : PySem.W.nsIn K mainGlobals "_law_constants" = some (some (.ref f_law_constants)))
    (l_law_constants : K.lookup f_law_constants = some ⟨oc_law_constants, od_law_constants, .func (PySem.W.fnOf "_law_constants" "_law_constants" (defArgs s_law_constants) (defBody s_law_constants) (defScope s_law_constants) .none kV_law_constants dc_law_constants pm_law_constants an_law_constants cd_law_constants ct_law_constants), sl_law_constants⟩)
    (c_law_constants : PySem.W.codeIn K cd_law_constants "_law_constants" = true)
    (k_law_constants : PySem.W.keepIn K (.ref f_law_constants) = true)
    {f_law_get : Addr} {oc_law_get : Value} {od_law_get an_law_get : Option Addr} {sl_law_get : Array (Option Value)} {kV_law_get dc_law_get pm_law_get cd_law_get ct_law_get : Value}
    (a_law_get : PySem.W.nsIn K mainGlobals "_law_get" = some (some (.ref f_law_get)))
    (l_law_get : K.lookup f_law_get = some ⟨oc_law_get, od_law_get, .func (PySem.W.fnOf "_law_get" "_law_get" (defArgs s_law_get) (defBody s_law_get) (defScope s_law_get) .none kV_law_get dc_law_get pm_law_get an_law_get cd_law_get ct_law_get), sl_law_get⟩)
    (c_law_get : PySem.W.codeIn K cd_law_get "_law_get" = true)
    (k_law_get : PySem.W.keepIn K (.ref f_law_get) = true)
    {f_law_tick : Addr} {oc_law_tick : Value} {od_law_tick an_law_tick : Option Addr} {sl_law_tick : Array (Option Value)} {kV_law_tick dc_law_tick pm_law_tick cd_law_tick ct_law_tick : Value}
    (a_law_tick : PySem.W.nsIn K mainGlobals "_law_tick" = some (some (.ref f_law_tick)))
    (l_law_tick : K.lookup f_law_tick = some ⟨oc_law_tick, od_law_tick, .func (PySem.W.fnOf "_law_tick" "_law_tick" (defArgs s_law_tick) (defBody s_law_tick) (defScope s_law_tick) .none kV_law_tick dc_law_tick pm_law_tick an_law_tick cd_law_tick ct_law_tick), sl_law_tick⟩)
    (c_law_tick : PySem.W.codeIn K cd_law_tick "_law_tick" = true)
    (k_law_tick : PySem.W.keepIn K (.ref f_law_tick) = true)
    {f_law_inputs : Addr} {oc_law_inputs : Value} {od_law_inputs an_law_inputs : Option Addr} {sl_law_inputs : Array (Option Value)} {kV_law_inputs dc_law_inputs pm_law_inputs cd_law_inputs ct_law_inputs : Value}
    (a_law_inputs : PySem.W.nsIn K mainGlobals "_law_inputs" = some (some (.ref f_law_inputs)))
    (l_law_inputs : K.lookup f_law_inputs = some ⟨oc_law_inputs, od_law_inputs, .func (PySem.W.fnOf "_law_inputs" "_law_inputs" (defArgs s_law_inputs) (defBody s_law_inputs) (defScope s_law_inputs) .none kV_law_inputs dc_law_inputs pm_law_inputs an_law_inputs cd_law_inputs ct_law_inputs), sl_law_inputs⟩)
    (c_law_inputs : PySem.W.codeIn K cd_law_inputs "_law_inputs" = true)
    (k_law_inputs : PySem.W.keepIn K (.ref f_law_inputs) = true)
    {f_law : Addr} {oc_law : Value} {od_law an_law : Option Addr} {sl_law : Array (Option Value)} {kV_law dc_law pm_law cd_law ct_law : Value}
    (a_law : PySem.W.nsIn K mainGlobals "law" = some (some (.ref f_law)))
    (l_law : K.lookup f_law = some ⟨oc_law, od_law, .func (PySem.W.fnOf "law" "law" (defArgs s_law) (defBody s_law) (defScope s_law) .none kV_law dc_law pm_law an_law cd_law ct_law), sl_law⟩)
    (c_law : PySem.W.codeIn K cd_law "law" = true)
    (k_law : PySem.W.keepIn K (.ref f_law) = true)
    {t_CONSTRAINT : Tok} (a_CONSTRAINT : PySem.W.nsIn K mainGlobals "CONSTRAINT" = some (some (.int (0) t_CONSTRAINT)))
    {t_DEPTH_LIMIT : Tok} (a_DEPTH_LIMIT : PySem.W.nsIn K mainGlobals "DEPTH_LIMIT" = some (some (.int (10) t_DEPTH_LIMIT)))
    {t_END : Tok} (a_END : PySem.W.nsIn K mainGlobals "END" = some (some (.int (3) t_END)))
    {c_EXHAUSTED : Addr} {o_EXHAUSTED : Obj} (a_EXHAUSTED : PySem.W.nsIn K mainGlobals "EXHAUSTED" = some (some (.ref c_EXHAUSTED))) (l_EXHAUSTED : K.lookup c_EXHAUSTED = some o_EXHAUSTED) (q_EXHAUSTED : IsTupOf o_EXHAUSTED [.str "exhausted"])
    {c_FAULT : Addr} {o_FAULT : Obj} (a_FAULT : PySem.W.nsIn K mainGlobals "FAULT" = some (some (.ref c_FAULT))) (l_FAULT : K.lookup c_FAULT = some o_FAULT) (q_FAULT : IsTupOf o_FAULT [.str "fault"])
    {c_NORMAL : Addr} {o_NORMAL : Obj} (a_NORMAL : PySem.W.nsIn K mainGlobals "NORMAL" = some (some (.ref c_NORMAL))) (l_NORMAL : K.lookup c_NORMAL = some o_NORMAL) (q_NORMAL : IsTupOf o_NORMAL [.str "normal"])
    {c_PREDEFINED : Addr} {o_PREDEFINED : Obj} (a_PREDEFINED : PySem.W.nsIn K mainGlobals "PREDEFINED" = some (some (.ref c_PREDEFINED))) (l_PREDEFINED : K.lookup c_PREDEFINED = some o_PREDEFINED) (q_PREDEFINED : IsTupOf o_PREDEFINED [.str "constraint_error", .str "program_error", .str "storage_error", .str "end_error"])
    {t_PROGRAM : Tok} (a_PROGRAM : PySem.W.nsIn K mainGlobals "PROGRAM" = some (some (.int (1) t_PROGRAM)))
    {c_STOPPED : Addr} {o_STOPPED : Obj} (a_STOPPED : PySem.W.nsIn K mainGlobals "STOPPED" = some (some (.ref c_STOPPED))) (l_STOPPED : K.lookup c_STOPPED = some o_STOPPED) (q_STOPPED : IsTupOf o_STOPPED [.str "stopped"])
    {t_STORAGE : Tok} (a_STORAGE : PySem.W.nsIn K mainGlobals "STORAGE" = some (some (.int (2) t_STORAGE)))
    (z_ValueError : PySem.W.nsIn K mainGlobals "ValueError" = some none)
    (z_bool : PySem.W.nsIn K mainGlobals "bool" = some none)
    (z_int : PySem.W.nsIn K mainGlobals "int" = some none)
    (z_isinstance : PySem.W.nsIn K mainGlobals "isinstance" = some none)
    (z_len : PySem.W.nsIn K mainGlobals "len" = some none)
    (z_list : PySem.W.nsIn K mainGlobals "list" = some none)
    (z_max : PySem.W.nsIn K mainGlobals "max" = some none)
    (z_min : PySem.W.nsIn K mainGlobals "min" = some none)
    (z_property : PySem.W.nsIn K mainGlobals "property" = some none)
    (z_range : PySem.W.nsIn K mainGlobals "range" = some none)
    (z_str : PySem.W.nsIn K mainGlobals "str" = some none)
    (z_tuple : PySem.W.nsIn K mainGlobals "tuple" = some none) :
    ∃ fd : FuncData, (∀ (s : Shared) (v : Value), BindsTo s fd ⟨[v], []⟩ [("script", v)]) ∧ ∀ base : Heap, K.In base → base.Ns mainGlobals mg → FnOk l.prog w K mg base CX0 6 fa fd ["script"] (spLaw K) := by
  have e := hfa.symm.trans (PySem.W.mg_of X G a_law)
  cases e
  let a : Ad := { f_Events___init__ := f_Events___init__, d_Events___init__ := PySem.W.fnOf "__init__" "Events.__init__" (defArgs s_Events___init__) (defBody s_Events___init__) (defScope s_Events___init__) .none kV_Events___init__ dc_Events___init__ pm_Events___init__ an_Events___init__ cd_Events___init__ ct_Events___init__, f_Events_put := f_Events_put, d_Events_put := PySem.W.fnOf "put" "Events.put" (defArgs s_Events_put) (defBody s_Events_put) (defScope s_Events_put) .none kV_Events_put dc_Events_put pm_Events_put an_Events_put cd_Events_put ct_Events_put, f_Events_get := f_Events_get, d_Events_get := PySem.W.fnOf "get" "Events.get" (defArgs s_Events_get) (defBody s_Events_get) (defScope s_Events_get) .none kV_Events_get dc_Events_get pm_Events_get an_Events_get cd_Events_get ct_Events_get, p_Events_rows := p_Events_rows, f_Events_rows := f_Events_rows, d_Events_rows := PySem.W.fnOf "rows" "Events.rows" (defArgs s_Events_rows) (defBody s_Events_rows) (defScope s_Events_rows) .none kV_Events_rows dc_Events_rows pm_Events_rows an_Events_rows cd_Events_rows ct_Events_rows, f_Fuel___init__ := f_Fuel___init__, d_Fuel___init__ := PySem.W.fnOf "__init__" "Fuel.__init__" (defArgs s_Fuel___init__) (defBody s_Fuel___init__) (defScope s_Fuel___init__) .none kV_Fuel___init__ dc_Fuel___init__ pm_Fuel___init__ an_Fuel___init__ cd_Fuel___init__ ct_Fuel___init__, f_Fuel_tick := f_Fuel_tick, d_Fuel_tick := PySem.W.fnOf "tick" "Fuel.tick" (defArgs s_Fuel_tick) (defBody s_Fuel_tick) (defScope s_Fuel_tick) .none kV_Fuel_tick dc_Fuel_tick pm_Fuel_tick an_Fuel_tick cd_Fuel_tick ct_Fuel_tick, p_Fuel_remaining := p_Fuel_remaining, f_Fuel_remaining := f_Fuel_remaining, d_Fuel_remaining := PySem.W.fnOf "remaining" "Fuel.remaining" (defArgs s_Fuel_remaining) (defBody s_Fuel_remaining) (defScope s_Fuel_remaining) .none kV_Fuel_remaining dc_Fuel_remaining pm_Fuel_remaining an_Fuel_remaining cd_Fuel_remaining ct_Fuel_remaining, f_law_start := f_law_start, d_law_start := PySem.W.fnOf "_law_start" "_law_start" (defArgs s_law_start) (defBody s_law_start) (defScope s_law_start) .none kV_law_start dc_law_start pm_law_start an_law_start cd_law_start ct_law_start, f_law_take := f_law_take, d_law_take := PySem.W.fnOf "_law_take" "_law_take" (defArgs s_law_take) (defBody s_law_take) (defScope s_law_take) .none kV_law_take dc_law_take pm_law_take an_law_take cd_law_take ct_law_take, f_law_word := f_law_word, d_law_word := PySem.W.fnOf "_law_word" "_law_word" (defArgs s_law_word) (defBody s_law_word) (defScope s_law_word) .none kV_law_word dc_law_word pm_law_word an_law_word cd_law_word ct_law_word, f_law_alike := f_law_alike, d_law_alike := PySem.W.fnOf "_law_alike" "_law_alike" (defArgs s_law_alike) (defBody s_law_alike) (defScope s_law_alike) .none kV_law_alike dc_law_alike pm_law_alike an_law_alike cd_law_alike ct_law_alike, f_law_constants := f_law_constants, d_law_constants := PySem.W.fnOf "_law_constants" "_law_constants" (defArgs s_law_constants) (defBody s_law_constants) (defScope s_law_constants) .none kV_law_constants dc_law_constants pm_law_constants an_law_constants cd_law_constants ct_law_constants, f_law_get := f_law_get, d_law_get := PySem.W.fnOf "_law_get" "_law_get" (defArgs s_law_get) (defBody s_law_get) (defScope s_law_get) .none kV_law_get dc_law_get pm_law_get an_law_get cd_law_get ct_law_get, f_law_tick := f_law_tick, d_law_tick := PySem.W.fnOf "_law_tick" "_law_tick" (defArgs s_law_tick) (defBody s_law_tick) (defScope s_law_tick) .none kV_law_tick dc_law_tick pm_law_tick an_law_tick cd_law_tick ct_law_tick, f_law_inputs := f_law_inputs, d_law_inputs := PySem.W.fnOf "_law_inputs" "_law_inputs" (defArgs s_law_inputs) (defBody s_law_inputs) (defScope s_law_inputs) .none kV_law_inputs dc_law_inputs pm_law_inputs an_law_inputs cd_law_inputs ct_law_inputs, f_law := fa, d_law := PySem.W.fnOf "law" "law" (defArgs s_law) (defBody s_law) (defScope s_law) .none kV_law dc_law pm_law an_law cd_law ct_law, t_CONSTRAINT := t_CONSTRAINT, t_DEPTH_LIMIT := t_DEPTH_LIMIT, t_END := t_END, c_EXHAUSTED := c_EXHAUSTED, c_FAULT := c_FAULT, c_NORMAL := c_NORMAL, c_PREDEFINED := c_PREDEFINED, t_PROGRAM := t_PROGRAM, c_STOPPED := c_STOPPED, t_STORAGE := t_STORAGE, C_AdaError := C_AdaError, C_NoInput := C_NoInput, C_OutOfFuel := C_OutOfFuel, C_Events := C_Events, C_Fuel := C_Fuel }
  have T : Txt K mg a := {
    F_Events___init__ := fun_mk (st := s_Events___init__) l_Events___init__ c_Events___init__ k_Events___init__,
    k_Events___init__ := k_Events___init__,
    bd_Events___init__ := (fun_mk (st := s_Events___init__) l_Events___init__ c_Events___init__ k_Events___init__).binds (ps := ["self", "inputs"]) fun _ _ _ _ _ _ us hl => match us, hl with | [_, _], _ => rfl,
    F_Events_put := fun_mk (st := s_Events_put) l_Events_put c_Events_put k_Events_put,
    k_Events_put := k_Events_put,
    bd_Events_put := (fun_mk (st := s_Events_put) l_Events_put c_Events_put k_Events_put).binds (ps := ["self", "word"]) fun _ _ _ _ _ _ us hl => match us, hl with | [_, _], _ => rfl,
    F_Events_get := fun_mk (st := s_Events_get) l_Events_get c_Events_get k_Events_get,
    k_Events_get := k_Events_get,
    bd_Events_get := (fun_mk (st := s_Events_get) l_Events_get c_Events_get k_Events_get).binds (ps := ["self"]) fun _ _ _ _ _ _ us hl => match us, hl with | [_], _ => rfl,
    pr_Events_rows := ⟨a_Events_rows, g_Events_rows, t_Events_rows, _, r_Events_rows⟩,
    F_Events_rows := fun_mk (st := s_Events_rows) l_Events_rows c_Events_rows k_Events_rows,
    k_Events_rows := k_Events_rows,
    bd_Events_rows := (fun_mk (st := s_Events_rows) l_Events_rows c_Events_rows k_Events_rows).binds (ps := ["self"]) fun _ _ _ _ _ _ us hl => match us, hl with | [_], _ => rfl,
    F_Fuel___init__ := fun_mk (st := s_Fuel___init__) l_Fuel___init__ c_Fuel___init__ k_Fuel___init__,
    k_Fuel___init__ := k_Fuel___init__,
    bd_Fuel___init__ := (fun_mk (st := s_Fuel___init__) l_Fuel___init__ c_Fuel___init__ k_Fuel___init__).binds (ps := ["self", "units"]) fun _ _ _ _ _ _ us hl => match us, hl with | [_, _], _ => rfl,
    F_Fuel_tick := fun_mk (st := s_Fuel_tick) l_Fuel_tick c_Fuel_tick k_Fuel_tick,
    k_Fuel_tick := k_Fuel_tick,
    bd_Fuel_tick := (fun_mk (st := s_Fuel_tick) l_Fuel_tick c_Fuel_tick k_Fuel_tick).binds (ps := ["self"]) fun _ _ _ _ _ _ us hl => match us, hl with | [_], _ => rfl,
    pr_Fuel_remaining := ⟨a_Fuel_remaining, g_Fuel_remaining, t_Fuel_remaining, _, r_Fuel_remaining⟩,
    F_Fuel_remaining := fun_mk (st := s_Fuel_remaining) l_Fuel_remaining c_Fuel_remaining k_Fuel_remaining,
    k_Fuel_remaining := k_Fuel_remaining,
    bd_Fuel_remaining := (fun_mk (st := s_Fuel_remaining) l_Fuel_remaining c_Fuel_remaining k_Fuel_remaining).binds (ps := ["self"]) fun _ _ _ _ _ _ us hl => match us, hl with | [_], _ => rfl,
    g__law_start := PySem.W.mg_of X G a_law_start,
    F__law_start := fun_mk (st := s_law_start) l_law_start c_law_start k_law_start,
    k__law_start := k_law_start,
    bd__law_start := (fun_mk (st := s_law_start) l_law_start c_law_start k_law_start).binds (ps := ["script"]) fun _ _ _ _ _ _ us hl => match us, hl with | [_], _ => rfl,
    g__law_take := PySem.W.mg_of X G a_law_take,
    F__law_take := fun_mk (st := s_law_take) l_law_take c_law_take k_law_take,
    k__law_take := k_law_take,
    bd__law_take := (fun_mk (st := s_law_take) l_law_take c_law_take k_law_take).binds (ps := ["state", "many"]) fun _ _ _ _ _ _ us hl => match us, hl with | [_, _], _ => rfl,
    g__law_word := PySem.W.mg_of X G a_law_word,
    F__law_word := fun_mk (st := s_law_word) l_law_word c_law_word k_law_word,
    k__law_word := k_law_word,
    bd__law_word := (fun_mk (st := s_law_word) l_law_word c_law_word k_law_word).binds (ps := ["state"]) fun _ _ _ _ _ _ us hl => match us, hl with | [_], _ => rfl,
    g__law_alike := PySem.W.mg_of X G a_law_alike,
    F__law_alike := fun_mk (st := s_law_alike) l_law_alike c_law_alike k_law_alike,
    k__law_alike := k_law_alike,
    bd__law_alike := (fun_mk (st := s_law_alike) l_law_alike c_law_alike k_law_alike).binds (ps := ["answer", "due"]) fun _ _ _ _ _ _ us hl => match us, hl with | [_, _], _ => rfl,
    g__law_constants := PySem.W.mg_of X G a_law_constants,
    F__law_constants := fun_mk (st := s_law_constants) l_law_constants c_law_constants k_law_constants,
    k__law_constants := k_law_constants,
    bd__law_constants := (fun_mk (st := s_law_constants) l_law_constants c_law_constants k_law_constants).binds (ps := []) fun _ _ _ _ _ _ us hl => match us, hl with | [], _ => rfl,
    g__law_get := PySem.W.mg_of X G a_law_get,
    F__law_get := fun_mk (st := s_law_get) l_law_get c_law_get k_law_get,
    k__law_get := k_law_get,
    bd__law_get := (fun_mk (st := s_law_get) l_law_get c_law_get k_law_get).binds (ps := ["events", "inputs", "taken", "due"]) fun _ _ _ _ _ _ us hl => match us, hl with | [_, _, _, _], _ => rfl,
    g__law_tick := PySem.W.mg_of X G a_law_tick,
    F__law_tick := fun_mk (st := s_law_tick) l_law_tick c_law_tick k_law_tick,
    k__law_tick := k_law_tick,
    bd__law_tick := (fun_mk (st := s_law_tick) l_law_tick c_law_tick k_law_tick).binds (ps := ["fuel", "units"]) fun _ _ _ _ _ _ us hl => match us, hl with | [_, _], _ => rfl,
    g__law_inputs := PySem.W.mg_of X G a_law_inputs,
    F__law_inputs := fun_mk (st := s_law_inputs) l_law_inputs c_law_inputs k_law_inputs,
    k__law_inputs := k_law_inputs,
    bd__law_inputs := (fun_mk (st := s_law_inputs) l_law_inputs c_law_inputs k_law_inputs).binds (ps := ["state", "many"]) fun _ _ _ _ _ _ us hl => match us, hl with | [_, _], _ => rfl,
    g_law := PySem.W.mg_of X G a_law,
    F_law := fun_mk (st := s_law) l_law c_law k_law,
    k_law := k_law,
    bd_law := (fun_mk (st := s_law) l_law c_law k_law).binds (ps := ["script"]) fun _ _ _ _ _ _ us hl => match us, hl with | [_], _ => rfl,
    g_CONSTRAINT := PySem.W.mg_of X G a_CONSTRAINT,
    g_DEPTH_LIMIT := PySem.W.mg_of X G a_DEPTH_LIMIT,
    g_END := PySem.W.mg_of X G a_END,
    g_EXHAUSTED := PySem.W.mg_of X G a_EXHAUSTED,
    q_EXHAUSTED := fun H => sqT_of l_EXHAUSTED q_EXHAUSTED,
    g_FAULT := PySem.W.mg_of X G a_FAULT,
    q_FAULT := fun H => sqT_of l_FAULT q_FAULT,
    g_NORMAL := PySem.W.mg_of X G a_NORMAL,
    q_NORMAL := fun H => sqT_of l_NORMAL q_NORMAL,
    g_PREDEFINED := PySem.W.mg_of X G a_PREDEFINED,
    q_PREDEFINED := fun H => sqT_of l_PREDEFINED q_PREDEFINED,
    g_PROGRAM := PySem.W.mg_of X G a_PROGRAM,
    g_STOPPED := PySem.W.mg_of X G a_STOPPED,
    q_STOPPED := fun H => sqT_of l_STOPPED q_STOPPED,
    g_STORAGE := PySem.W.mg_of X G a_STORAGE,
    b_ValueError := PySem.W.mg_none_of X G z_ValueError,
    b_bool := PySem.W.mg_none_of X G z_bool,
    b_int := PySem.W.mg_none_of X G z_int,
    b_isinstance := PySem.W.mg_none_of X G z_isinstance,
    b_len := PySem.W.mg_none_of X G z_len,
    b_list := PySem.W.mg_none_of X G z_list,
    b_max := PySem.W.mg_none_of X G z_max,
    b_min := PySem.W.mg_none_of X G z_min,
    b_property := PySem.W.mg_none_of X G z_property,
    b_range := PySem.W.mg_none_of X G z_range,
    b_str := PySem.W.mg_none_of X G z_str,
    b_tuple := PySem.W.mg_none_of X G z_tuple,
    g_AdaError := PySem.W.mg_of X G aC_AdaError,
    x_AdaError := x_AdaError,
    kC_AdaError := kC_AdaError,
    s1_AdaError := s1_AdaError,
    ty_AdaError := ty_AdaError,
    ic_AdaError := ic_AdaError,
    g_NoInput := PySem.W.mg_of X G aC_NoInput,
    x_NoInput := x_NoInput,
    kC_NoInput := kC_NoInput,
    s1_NoInput := s1_NoInput,
    ty_NoInput := ty_NoInput,
    ic_NoInput := ic_NoInput,
    ec_NoInput := ⟨h1_NoInput, h2_NoInput, s1_NoInput, h3_NoInput, h4_NoInput, h5_NoInput, h6_NoInput, h7_NoInput⟩,
    g_OutOfFuel := PySem.W.mg_of X G aC_OutOfFuel,
    x_OutOfFuel := x_OutOfFuel,
    kC_OutOfFuel := kC_OutOfFuel,
    s1_OutOfFuel := s1_OutOfFuel,
    ty_OutOfFuel := ty_OutOfFuel,
    ic_OutOfFuel := ic_OutOfFuel,
    ec_OutOfFuel := ⟨h1_OutOfFuel, h2_OutOfFuel, s1_OutOfFuel, h3_OutOfFuel, h4_OutOfFuel, h5_OutOfFuel, h6_OutOfFuel, h7_OutOfFuel⟩,
    g_Events := PySem.W.mg_of X G aC_Events,
    cl_Events := ⟨pg_Events, hd_Events, po_Events, sa_Events⟩,
    mk_Events := ⟨mk_Events, a_Events___init__, i_Events___init__, kC_Events⟩,
    n_Events__inputs := n_Events__inputs,
    n_Events__taken := n_Events__taken,
    n_Events__rows := n_Events__rows,
    m_Events_put := ⟨a_Events_put, i_Events_put, k_Events_put⟩,
    m_Events_get := ⟨a_Events_get, i_Events_get, k_Events_get⟩,
    g_Fuel := PySem.W.mg_of X G aC_Fuel,
    cl_Fuel := ⟨pg_Fuel, hd_Fuel, po_Fuel, sa_Fuel⟩,
    mk_Fuel := ⟨mk_Fuel, a_Fuel___init__, i_Fuel___init__, kC_Fuel⟩,
    n_Fuel__left := n_Fuel__left,
    m_Fuel_tick := ⟨a_Fuel_tick, i_Fuel_tick, k_Fuel_tick⟩,
    e_NoInput_AdaError := exm_of s1_AdaError ic_AdaError ty_AdaError e_NoInput_AdaError,
    e_OutOfFuel_AdaError := exm_of s1_AdaError ic_AdaError ty_AdaError e_OutOfFuel_AdaError,
    i_NoInput_NoInput := kit_sub i_NoInput_NoInput (fun z => nomatch z) ic_NoInput ty_NoInput,
    i_NoInput_OutOfFuel := kit_sub i_NoInput_OutOfFuel (fun _ => zz_OutOfFuel) ic_OutOfFuel ty_OutOfFuel,
    i_NoInput_ValueError := kit_bt (by decide +kernel) i_NoInput_ValueError,
    i_OutOfFuel_NoInput := kit_sub i_OutOfFuel_NoInput (fun _ => zz_NoInput) ic_NoInput ty_NoInput,
    i_OutOfFuel_OutOfFuel := kit_sub i_OutOfFuel_OutOfFuel (fun z => nomatch z) ic_OutOfFuel ty_OutOfFuel,
    i_OutOfFuel_ValueError := kit_bt (by decide +kernel) i_OutOfFuel_ValueError }
  exact ⟨a.d_law, fun s v => .of_eq rfl, fun base _ _ => ok_law T⟩
theorem walk {l : PySem.W.OpenLaw} {q : Program} {loose : List Str} {XP : (Str → Option Value) → Heap → Prop} {YP : World → Heap → Prop} {d : DefRec} {K : Params → PySem.W.Frag} (hn : l.most = some 63) (hdf : d.params.defaults = [])
    (hY : ∀ (w : World) (h : Heap), YP w h → (K w.params).In h)
    (F : ∀ (w : World) (mg : Str → Option Value) (fa : Addr) (h : Heap), (K w.params).In h → h.Ns mainGlobals mg → mg d.name = some (.ref fa) →
      ∃ fd : FuncData, (∀ (s : Shared) (u : Value), BindsTo s fd ⟨[u], []⟩ [("script", u)]) ∧ ∀ base : Heap, (K w.params).In base → base.Ns mainGlobals mg → FnOk l.prog w (K w.params) mg base CX0 6 fa fd ["script"] (spLaw (K w.params))) :
    PySem.W.WalkO q loose XP YP l.row.toRowW d [] (fun f vs => PySem.call f vs) :=
  L2.walk_of (n := 63) (k := 6) (x := "script") (CX := fun _ => CX0) (sp := fun w => spLaw (K w.params)) hn (by decide) hdf ⟨rfl, by decide, by decide⟩ hY F (fun _ _ a ns hl _ hS => ⟨a, ns, rfl, hS, hl, fun _ => rfl⟩) fun _ _ _ _ _ z => z

end My
open PySem PySem.W PyProof.Rows
set_option maxRecDepth 100000 in
set_option maxHeartbeats 0 in
theorem PySem.Challenge.cw_windowada_k18_events_and_fuel_holds : PySem.Challenge.rw_windowada_k18_events_and_fuel.Holds := by
  w_on; o_law; k_head; (case hw => w_witness2)
  k_fill
  refine My.walk (l := PySem.Challenge.rw_windowada_k18_events_and_fuel) rfl rfl (fun w h Y => PySem.W.kIn_of Y) ?F
  case F =>
    intro w mg fa h KX G hmg
    refine' My.all_mk KX G hmg ?aC_AdaError ?x_AdaError ?kC_AdaError ?s1_AdaError ?ty_AdaError ?ic_AdaError ?aC_NoInput ?x_NoInput ?kC_NoInput ?s1_NoInput ?ty_NoInput ?ic_NoInput ?h1_NoInput ?h2_NoInput ?h3_NoInput ?h4_NoInput ?h5_NoInput ?h6_NoInput ?h7_NoInput ?aC_OutOfFuel ?x_OutOfFuel ?kC_OutOfFuel ?s1_OutOfFuel ?ty_OutOfFuel ?ic_OutOfFuel ?h1_OutOfFuel ?h2_OutOfFuel ?h3_OutOfFuel ?h4_OutOfFuel ?h5_OutOfFuel ?h6_OutOfFuel ?h7_OutOfFuel ?aC_Events ?pg_Events ?hd_Events ?po_Events ?sa_Events ?mk_Events ?kC_Events ?n_Events__inputs ?n_Events__taken ?n_Events__rows ?aC_Fuel ?pg_Fuel ?hd_Fuel ?po_Fuel ?sa_Fuel ?mk_Fuel ?kC_Fuel ?n_Fuel__left ?e_NoInput_AdaError ?e_OutOfFuel_AdaError ?zz_NoInput ?zz_OutOfFuel ?i_NoInput_NoInput ?i_NoInput_OutOfFuel ?i_NoInput_ValueError ?i_OutOfFuel_NoInput ?i_OutOfFuel_OutOfFuel ?i_OutOfFuel_ValueError ?a_Events___init__ ?i_Events___init__ ?l_Events___init__ ?c_Events___init__ ?k_Events___init__ ?a_Events_put ?i_Events_put ?l_Events_put ?c_Events_put ?k_Events_put ?a_Events_get ?i_Events_get ?l_Events_get ?c_Events_get ?k_Events_get ?a_Events_rows ?g_Events_rows ?t_Events_rows ?r_Events_rows ?l_Events_rows ?c_Events_rows ?k_Events_rows ?a_Fuel___init__ ?i_Fuel___init__ ?l_Fuel___init__ ?c_Fuel___init__ ?k_Fuel___init__ ?a_Fuel_tick ?i_Fuel_tick ?l_Fuel_tick ?c_Fuel_tick ?k_Fuel_tick ?a_Fuel_remaining ?g_Fuel_remaining ?t_Fuel_remaining ?r_Fuel_remaining ?l_Fuel_remaining ?c_Fuel_remaining ?k_Fuel_remaining ?a_law_start ?l_law_start ?c_law_start ?k_law_start ?a_law_take ?l_law_take ?c_law_take ?k_law_take ?a_law_word ?l_law_word ?c_law_word ?k_law_word ?a_law_alike ?l_law_alike ?c_law_alike ?k_law_alike ?a_law_constants ?l_law_constants ?c_law_constants ?k_law_constants ?a_law_get ?l_law_get ?c_law_get ?k_law_get ?a_law_tick ?l_law_tick ?c_law_tick ?k_law_tick ?a_law_inputs ?l_law_inputs ?c_law_inputs ?k_law_inputs ?a_law ?l_law ?c_law ?k_law ?a_CONSTRAINT ?a_DEPTH_LIMIT ?a_END ?a_EXHAUSTED ?l_EXHAUSTED ?q_EXHAUSTED ?a_FAULT ?l_FAULT ?q_FAULT ?a_NORMAL ?l_NORMAL ?q_NORMAL ?a_PREDEFINED ?l_PREDEFINED ?q_PREDEFINED ?a_PROGRAM ?a_STOPPED ?l_STOPPED ?q_STOPPED ?a_STORAGE ?z_ValueError ?z_bool ?z_int ?z_isinstance ?z_len ?z_list ?z_max ?z_min ?z_property ?z_range ?z_str ?z_tuple
    (case aC_AdaError => k_is)
    (case x_AdaError => k_exc)
    (case kC_AdaError => k_is)
    (case s1_AdaError => k_is)
    (case ty_AdaError => k_is)
    (case ic_AdaError => k_is)
    (case aC_NoInput => k_is)
    (case x_NoInput => k_exc)
    (case kC_NoInput => k_is)
    (case s1_NoInput => k_is)
    (case ty_NoInput => k_is)
    (case ic_NoInput => k_is)
    (case h1_NoInput => k_is)
    (case h2_NoInput => k_is)
    (case h3_NoInput => k_is)
    (case h4_NoInput => k_is)
    (case h5_NoInput => k_is)
    (case h6_NoInput => k_is)
    (case h7_NoInput => k_is)
    (case aC_OutOfFuel => k_is)
    (case x_OutOfFuel => k_exc)
    (case kC_OutOfFuel => k_is)
    (case s1_OutOfFuel => k_is)
    (case ty_OutOfFuel => k_is)
    (case ic_OutOfFuel => k_is)
    (case h1_OutOfFuel => k_is)
    (case h2_OutOfFuel => k_is)
    (case h3_OutOfFuel => k_is)
    (case h4_OutOfFuel => k_is)
    (case h5_OutOfFuel => k_is)
    (case h6_OutOfFuel => k_is)
    (case h7_OutOfFuel => k_is)
    (case aC_Events => k_is)
    (case pg_Events => k_is)
    (case hd_Events => k_is)
    (case po_Events => k_is)
    (case sa_Events => k_is)
    (case mk_Events => k_is)
    (case kC_Events => k_is)
    (case n_Events__inputs => k_is)
    (case n_Events__taken => k_is)
    (case n_Events__rows => k_is)
    (case aC_Fuel => k_is)
    (case pg_Fuel => k_is)
    (case hd_Fuel => k_is)
    (case po_Fuel => k_is)
    (case sa_Fuel => k_is)
    (case mk_Fuel => k_is)
    (case kC_Fuel => k_is)
    (case n_Fuel__left => k_is)
    (case e_NoInput_AdaError => first | rfl | k_is)
    (case e_OutOfFuel_AdaError => first | rfl | k_is)
    (case zz_NoInput => first | rfl | k_is)
    (case zz_OutOfFuel => first | rfl | k_is)
    (case i_NoInput_NoInput => first | rfl | k_is)
    (case i_NoInput_OutOfFuel => first | rfl | k_is)
    (case i_NoInput_ValueError => first | rfl | k_is)
    (case i_OutOfFuel_NoInput => first | rfl | k_is)
    (case i_OutOfFuel_OutOfFuel => first | rfl | k_is)
    (case i_OutOfFuel_ValueError => first | rfl | k_is)
    (case a_Events___init__ => k_is)
    (case i_Events___init__ => first | rfl | k_is)
    (case l_Events___init__ => k_is)
    (case c_Events___init__ => k_is)
    (case k_Events___init__ => k_is)
    (case a_Events_put => k_is)
    (case i_Events_put => first | rfl | k_is)
    (case l_Events_put => k_is)
    (case c_Events_put => k_is)
    (case k_Events_put => k_is)
    (case a_Events_get => k_is)
    (case i_Events_get => first | rfl | k_is)
    (case l_Events_get => k_is)
    (case c_Events_get => k_is)
    (case k_Events_get => k_is)
    (case a_Events_rows => k_is)
    (case g_Events_rows => k_is)
    (case t_Events_rows => k_is)
    (case r_Events_rows => k_is)
    (case l_Events_rows => k_is)
    (case c_Events_rows => k_is)
    (case k_Events_rows => k_is)
    (case a_Fuel___init__ => k_is)
    (case i_Fuel___init__ => first | rfl | k_is)
    (case l_Fuel___init__ => k_is)
    (case c_Fuel___init__ => k_is)
    (case k_Fuel___init__ => k_is)
    (case a_Fuel_tick => k_is)
    (case i_Fuel_tick => first | rfl | k_is)
    (case l_Fuel_tick => k_is)
    (case c_Fuel_tick => k_is)
    (case k_Fuel_tick => k_is)
    (case a_Fuel_remaining => k_is)
    (case g_Fuel_remaining => k_is)
    (case t_Fuel_remaining => k_is)
    (case r_Fuel_remaining => k_is)
    (case l_Fuel_remaining => k_is)
    (case c_Fuel_remaining => k_is)
    (case k_Fuel_remaining => k_is)
    (case a_law_start => k_is)
    (case l_law_start => k_is)
    (case c_law_start => k_is)
    (case k_law_start => k_is)
    (case a_law_take => k_is)
    (case l_law_take => k_is)
    (case c_law_take => k_is)
    (case k_law_take => k_is)
    (case a_law_word => k_is)
    (case l_law_word => k_is)
    (case c_law_word => k_is)
    (case k_law_word => k_is)
    (case a_law_alike => k_is)
    (case l_law_alike => k_is)
    (case c_law_alike => k_is)
    (case k_law_alike => k_is)
    (case a_law_constants => k_is)
    (case l_law_constants => k_is)
    (case c_law_constants => k_is)
    (case k_law_constants => k_is)
    (case a_law_get => k_is)
    (case l_law_get => k_is)
    (case c_law_get => k_is)
    (case k_law_get => k_is)
    (case a_law_tick => k_is)
    (case l_law_tick => k_is)
    (case c_law_tick => k_is)
    (case k_law_tick => k_is)
    (case a_law_inputs => k_is)
    (case l_law_inputs => k_is)
    (case c_law_inputs => k_is)
    (case k_law_inputs => k_is)
    (case a_law => k_is)
    (case l_law => k_is)
    (case c_law => k_is)
    (case k_law => k_is)
    (case a_CONSTRAINT => k_is)
    (case a_DEPTH_LIMIT => k_is)
    (case a_END => k_is)
    (case a_EXHAUSTED => k_is)
    (case l_EXHAUSTED => k_is)
    (case q_EXHAUSTED => refine ⟨rfl, _, _, rfl, by decide, ?_⟩; repeat (first | exact .nil | refine .cons ⟨_, rfl⟩ ?_))
    (case a_FAULT => k_is)
    (case l_FAULT => k_is)
    (case q_FAULT => refine ⟨rfl, _, _, rfl, by decide, ?_⟩; repeat (first | exact .nil | refine .cons ⟨_, rfl⟩ ?_))
    (case a_NORMAL => k_is)
    (case l_NORMAL => k_is)
    (case q_NORMAL => refine ⟨rfl, _, _, rfl, by decide, ?_⟩; repeat (first | exact .nil | refine .cons ⟨_, rfl⟩ ?_))
    (case a_PREDEFINED => k_is)
    (case l_PREDEFINED => k_is)
    (case q_PREDEFINED => refine ⟨rfl, _, _, rfl, by decide, ?_⟩; repeat (first | exact .nil | refine .cons ⟨_, rfl⟩ ?_))
    (case a_PROGRAM => k_is)
    (case a_STOPPED => k_is)
    (case l_STOPPED => k_is)
    (case q_STOPPED => refine ⟨rfl, _, _, rfl, by decide, ?_⟩; repeat (first | exact .nil | refine .cons ⟨_, rfl⟩ ?_))
    (case a_STORAGE => k_is)
    (case z_ValueError => k_is)
    (case z_bool => k_is)
    (case z_int => k_is)
    (case z_isinstance => k_is)
    (case z_len => k_is)
    (case z_list => k_is)
    (case z_max => k_is)
    (case z_min => k_is)
    (case z_property => k_is)
    (case z_range => k_is)
    (case z_str => k_is)
    (case z_tuple => k_is)

