import PyProof.Rows.All
import Wide.All
import OpenK.AllK
import Wide.FinOn
import HandS.ForMost
import HandS.ForExc
import HandS.Wide
import HandS.IsInst
import HandS.ExcIs
import HandS.WordsExc
import PySem.Challenge.RW_windowada_k17_word_arithmetic
set_option Elab.async false
set_option maxRecDepth 100000
set_option maxHeartbeats 4000000
set_option linter.all false
namespace My
open PySem L2
/-! ### helpers -/
def IsTupOf (o : Obj) (xs : List V) : Prop := o.cls = .type "tuple" ∧ ∃ (its : Array Value) (n : Nat), o.data = .seq its n ∧ its.size ≤ sizeLine ∧ Vals xs its.toList
theorem sqT_of {K : PySem.W.Frag} {H : Hp} {a : Addr} {o : Obj} {xs : List V} (h : K.lookup a = some o) (q : IsTupOf o xs) : SqT K H a xs := by
  obtain ⟨c, its, n, d, z, r⟩ := q
  exact .inr ⟨o, its, n, h, c, d, z, r⟩
theorem upd_self {H : Hp} {a : Addr} {o : HO} (h : H a = some o) : upd H a o = H := by
  funext b
  unfold upd
  split
  · rename_i e; rw [e, h]
  · rfl
theorem exm_of {K : PySem.W.Frag} {S C : Addr} (h1 : PySem.W.subIn K (.ref C) (.type "BaseException") = some true) (h2 : PySem.W.isClsIn K C = true) (h3 : PySem.W.typeIn K (.ref C) = some (.type "type")) {b : Bool} (h4 : PySem.W.subIn K (.ref S) (.ref C) = some b) :
    PySem.W.exmOne K (.ref S) (.ref C) = some b := by
  have e1 : (PySem.W.subIn K (.ref C) (.type "BaseException") == some true) = true := by rw [h1] <;> rfl
  have e2 : ((PySem.W.clsIn K C).isSome && PySem.W.typeIn K (.ref C) == some (.type "type")) = true := by
    have h2' : (PySem.W.clsIn K C).isSome = true := h2
    rw [h2', h3] <;> rfl
  show (if (PySem.W.subIn K (.ref C) (.type "BaseException") == some true) = true then (if ((PySem.W.clsIn K C).isSome && PySem.W.typeIn K (.ref C) == some (.type "type")) = true then PySem.W.subIn K (.ref S) (.ref C) else none) else none) = some b
  rw [if_pos e1, if_pos e2]
  exact h4
theorem sN {H H1 : Hp} {p : Addr} {o : HO} (s : Same H H1) (n : H1 p = none) : Same H (upd H1 p o) := fun b u e => by
  rw [upd_ne (ne_of_none (s b u e) n)]
  exact s b u e
theorem seqT {K : PySem.W.Frag} {H H' : Hp} {a : Addr} {xs : List V} (e : Same H H') (h : SqT K H a xs) : SqT K H' a xs := by
  rcases h with (h | ⟨o, h⟩) | h
  · exact .inl (.inl (e _ _ h))
  · exact .inl (.inr ⟨o, e _ _ h⟩)
  · exact .inr h
theorem ite3 {b : Bool} {A B : Prop} (h1 : b = true → A) (h2 : b = false → B) : if b = true then A else B := by
  cases b with
  | true => exact iteT (h1 rfl)
  | false => exact iteF (h2 rfl)
section
variable {X : Cx}
def rInS (K : PySem.W.Frag) : R2 := fun x y H Q => ∃ p xs, y = .ref p ∧ (SqL K H p xs ∨ SqT K H p xs) ∧ flatV x = true ∧ xs.all flatV = true ∧ Q (.bl (inV x xs)) H
def rNotInS (K : PySem.W.Frag) : R2 := fun x y H Q => ∃ p xs, y = .ref p ∧ (SqL K H p xs ∨ SqT K H p xs) ∧ flatV x = true ∧ xs.all flatV = true ∧ Q (.bl (!inV x xs)) H
theorem op_inS : OpR X (compareOp .In) (rInS X.K) := fun pins s σ H x y v u Q I rx ry h => op_in_seq pins s σ H x y v u Q I rx ry h
theorem op_notInS : OpR X (compareOp .NotIn) (rNotInS X.K) := fun pins s σ H x y v u Q I rx ry h => op_notIn_seq pins s σ H x y v u Q I rx ry h
end
theorem at0 {v : V} {r : List V} : atI (v :: r) 0 = some v := atI_nat (j := 0) rfl
theorem sUpd {H H1 : Hp} {p : Addr} {o : HO} (s : Same H H1) (n : H p = none) : Same H (upd H1 p o) := fun b u e => by
  rw [upd_ne (ne_of_none e n)]
  exact s b u e
/-! ### match over a value -/
structure PMC (X : Cx) (cases : List MatchCase) (t : V → TS) : Prop where
  run : ∀ (first : Bool) (pins : List (Addr × Obj)) (s : Shared) (σ : St) (H : Hp) (D : Ends) (x : V) (v : Value), Inv X pins σ H s → RelV x v → t x D σ H → wpAny (model X.prog X.w) X.A (matchCases cases X.env v first) (SP X pins D) X.xe s
def mNil : V → TS := fun _ D σ H => D.nx σ H
def mStr (z : Str) (t : TS) (u : V → TS) : V → TS := fun x D σ H => scal x (.str z) = true ∧ if decide (x = .str z) = true then t D σ H else u x D σ H
def tMatch (te : TE) (t : V → TS) : TS := fun D σ H => te σ H fun x H1 => t x D σ H1
section
variable {X : Cx}
theorem pmc_nil : PMC X [] mNil := ⟨fun _ _ _ σ H D x v I _ h => wpAny_matchCases_nil ⟨σ, H, I, h⟩⟩
theorem pmc_str {z : Str} {j : Nat} {p p2 : Pos} {body : List Stmt} {rest : List MatchCase} {t : TS} {u : V → TS} (hb : PSs X body t) (hr : PMC X rest u) : PMC X (⟨.MatchValue (.Constant (.str z) j p) p2, none, body⟩ :: rest) (mStr z t u) := by
  refine ⟨fun first pins s σ H D x v I r h => ?_⟩
  obtain ⟨hs, h⟩ := h
  refine wpAny_matchCases_cons (wpAny_matchPattern_Value ?_)
  have hz : PE X (.Constant (.str z) j p) (tC (.str z)) := pe_str
  refine thn (hz.run pins s σ H (fun y H1 => y = .str z ∧ H1 = H) I ⟨rfl, rfl⟩) fun w s1 ⟨y, H1, I1, r1, e1, e2⟩ => ?_
  subst e1; subst e2
  refine thn (op_eq pins s1 σ H1 x (.str z) v w (fun y H2 => y = .bl (decide (x = .str z)) ∧ H2 = H1) I1 r r1 ⟨hs, rfl, rfl⟩) fun c s2 ⟨y, H2, I2, r2, e1, e2⟩ => ?_
  subst e1; subst e2
  cases r2
  refine wpAny_truthy_bool ?_
  cases e : decide (x = V.str z) with
  | true =>
    rw [e] at h
    refine wpAny_assignInOrder_none ?_
    exact hb.run pins s2 σ H2 D I2 (by simpa using h)
  | false =>
    rw [e] at h
    exact hr.run false pins s2 σ H2 D x v I2 r (by simpa using h)
theorem ps_match {e : Expr} {cs : List MatchCase} {pos : Pos} {te : TE} {t : V → TS} (he : PE X e te) (hc : PMC X cs t) : PS X (.Match e cs pos) (tMatch te t) := by
  refine ⟨fun pins s σ H D I h => ?_⟩
  exact wpAny_Match (thn (he.run pins s σ H _ I h) fun v s1 ⟨x, H1, I1, r1, q1⟩ => hc.run true pins s1 σ H1 D x v I1 r1 q1)
/-- isinstance(e, c) in a suite, whatever the caught class is -/
def rIsEx (K : PySem.W.Frag) (a : Addr) (cls : Value) (d : Option Addr) : List V → Hp → VK → Prop := fun xs H Q => ∃ D, cls = .ref D ∧ d = none ∧ ExcC K D ∧ rIsE K D a xs H Q
theorem call_isEx {a : Addr} {cls : Value} {d : Option Addr} {oe : Obj} {pn : List (Addr × Obj)} (hz : Zc cls d oe) (hf : ∃ vs, oe.data = .fields vs) : CallR (X.suite a ((a, oe) :: pn)) (.builtin "isinstance") (rIsEx X.K a cls d) := by
  intro pins s σ H xs us Q I r h
  obtain ⟨D, rfl, rfl, C, h⟩ := h
  exact call_isE C hz hf pins s σ H xs us Q I r h
end
/-! ### a word between two statements -/
def tCut (t u : TS) : TS := fun D σ H => ∃ Mid : L2.St → Hp → Prop, t { D with nx := Mid } σ H ∧ ∀ σ' H', Mid σ' H' → u D σ' H'
theorem pss_cut {X : Cx} {st : Stmt} {rest : List Stmt} {t u : TS} (h1 : PS X st t) (h2 : PSs X rest u) : PSs X (st :: rest) (tCut t u) := by
  refine ⟨fun pins s σ H D I h => ?_⟩
  obtain ⟨Mid, hm, hu⟩ := h
  refine wpAny_execs_cons (thn (h1.run pins s σ H { D with nx := Mid } I hm) fun f s1 q => ?_)
  cases f with
  | next =>
    obtain ⟨σ', H', I', q⟩ := q
    exact h2.run pins s1 σ' H' D I' (hu σ' H' q)
  | ret v => exact q
  | brk => exact q
  | cont => exact q
theorem kit_self {K : PySem.W.Frag} {D : Addr} : PySem.W.kitOne K (.ref D) (.ref D) = some true := by
  unfold PySem.W.kitOne
  rw [if_pos (by simp)]
theorem kit_no {K : PySem.W.Frag} {D C : Addr} (h : PySem.W.subIn K (.ref D) (.ref C) = some false) (hs : PySem.W.subIn K (.ref C) (.ref C) = some true) (h2 : PySem.W.isClsIn K C = true) (h3 : PySem.W.typeIn K (.ref C) = some (.type "type")) :
    PySem.W.kitOne K (.ref D) (.ref C) = some false := by
  have ne : ¬ ((Value.ref D == Value.ref C) = true) := fun e => by
    have e' : D = C := by simpa using e
    subst e'
    rw [h] at hs
    exact nomatch hs
  have e2 : ((PySem.W.clsIn K C).isSome && PySem.W.typeIn K (.ref C) == some (.type "type")) = true := by
    have h2' : (PySem.W.clsIn K C).isSome = true := h2
    rw [h2', h3] <;> rfl
  unfold PySem.W.kitOne
  rw [if_neg ne]
  show (if ((PySem.W.clsIn K C).isSome && PySem.W.typeIn K (.ref C) == some (.type "type")) = true then PySem.W.subIn K (.ref D) (.ref C) else none) = some false
  rw [if_pos e2]
  exact h
theorem kit_sub {K : PySem.W.Frag} {D C : Addr} {b : Bool} (h : PySem.W.subIn K (.ref D) (.ref C) = some b) (hs : b = false → PySem.W.subIn K (.ref C) (.ref C) = some true) (h2 : PySem.W.isClsIn K C = true) (h3 : PySem.W.typeIn K (.ref C) = some (.type "type")) :
    PySem.W.kitOne K (.ref D) (.ref C) = some b := by
  cases b with
  | false => exact kit_no h (hs rfl) h2 h3
  | true =>
    have e2 : ((PySem.W.clsIn K C).isSome && PySem.W.typeIn K (.ref C) == some (.type "type")) = true := by
      have h2' : (PySem.W.clsIn K C).isSome = true := h2
      rw [h2', h3] <;> rfl
    unfold PySem.W.kitOne
    split
    · rfl
    · show (if ((PySem.W.clsIn K C).isSome && PySem.W.typeIn K (.ref C) == some (.type "type")) = true then PySem.W.subIn K (.ref D) (.ref C) else none) = some true
      rw [if_pos e2]
      exact h
theorem kit_bt {K : PySem.W.Frag} {D : Addr} {n : String} {b : Bool} (hm : PySem.W.kitMeta n = true) (h : PySem.W.subIn K (.ref D) (.type n) = some b) : PySem.W.kitOne K (.ref D) (.type n) = some b := by
  unfold PySem.W.kitOne
  rw [if_neg (by simp)]
  show (if PySem.W.kitMeta n = true then PySem.W.subIn K (.ref D) (.type n) else none) = some b
  rw [if_pos hm]
  exact h

def top (i : Nat) : Stmt := PySem.Challenge.pw_windowada_k17_word_arithmetic.main.body.getD i (.Pass ⟨0, 0, 0, 0⟩)
abbrev s_fits : Stmt := top 7
abbrev s_arithmetic : Stmt := top 8
abbrev s_negate : Stmt := top 9
abbrev s_absolute : Stmt := top 10
abbrev s_compare : Stmt := top 11
abbrev s_word : Stmt := top 12
abbrev s_result : Stmt := top 13
abbrev s_quotient : Stmt := top 14
abbrev s_law_start : Stmt := top 16
abbrev s_law_take : Stmt := top 17
abbrev s_law_word : Stmt := top 18
abbrev s_law_exact : Stmt := top 19
abbrev s_law_is_word : Stmt := top 20
abbrev s_law_holds : Stmt := top 21
abbrev s_law_arithmetic : Stmt := top 22
abbrev s_law_signs : Stmt := top 23
abbrev s_law_relations : Stmt := top 24
abbrev s_law_fits : Stmt := top 25
abbrev s_law : Stmt := top 26
theorem sc_fits : FnScope ["number"] ["number"] (defScope s_fits) := ⟨rfl, rfl, rfl, by decide +kernel, rfl, by decide +kernel, by decide +kernel⟩
theorem sc_arithmetic : FnScope ["op", "left", "right"] ["op", "left", "right"] (defScope s_arithmetic) := ⟨rfl, rfl, rfl, by decide +kernel, rfl, by decide +kernel, by decide +kernel⟩
theorem sc_negate : FnScope ["word"] ["word"] (defScope s_negate) := ⟨rfl, rfl, rfl, by decide +kernel, rfl, by decide +kernel, by decide +kernel⟩
theorem sc_absolute : FnScope ["word"] ["word"] (defScope s_absolute) := ⟨rfl, rfl, rfl, by decide +kernel, rfl, by decide +kernel, by decide +kernel⟩
theorem sc_compare : FnScope ["op", "left", "right"] ["op", "left", "right"] (defScope s_compare) := ⟨rfl, rfl, rfl, by decide +kernel, rfl, by decide +kernel, by decide +kernel⟩
theorem sc_word : FnScope ["number"] ["number"] (defScope s_word) := ⟨rfl, rfl, rfl, by decide +kernel, rfl, by decide +kernel, by decide +kernel⟩
theorem sc_result : FnScope ["op", "left", "right"] ["op", "left", "right"] (defScope s_result) := ⟨rfl, rfl, rfl, by decide +kernel, rfl, by decide +kernel, by decide +kernel⟩
theorem sc_quotient : FnScope ["left", "right", "quotient"] ["left", "right"] (defScope s_quotient) := ⟨rfl, rfl, rfl, by decide +kernel, rfl, by decide +kernel, by decide +kernel⟩
theorem sc_law_start : FnScope ["script", "great", "seed", "cell"] ["script"] (defScope s_law_start) := ⟨rfl, rfl, rfl, by decide +kernel, rfl, by decide +kernel, by decide +kernel⟩
theorem sc_law_take : FnScope ["state", "many", "digit", "mixed"] ["state", "many"] (defScope s_law_take) := ⟨rfl, rfl, rfl, by decide +kernel, rfl, by decide +kernel, by decide +kernel⟩
theorem sc_law_word : FnScope ["state", "kind"] ["state"] (defScope s_law_word) := ⟨rfl, rfl, rfl, by decide +kernel, rfl, by decide +kernel, by decide +kernel⟩
theorem sc_law_exact : FnScope ["op", "left", "right", "size", "rest"] ["op", "left", "right"] (defScope s_law_exact) := ⟨rfl, rfl, rfl, by decide +kernel, rfl, by decide +kernel, by decide +kernel⟩
theorem sc_law_is_word : FnScope ["number"] ["number"] (defScope s_law_is_word) := ⟨rfl, rfl, rfl, by decide +kernel, rfl, by decide +kernel, by decide +kernel⟩
theorem sc_law_holds : FnScope ["answer", "raised", "exact"] ["answer", "raised", "exact"] (defScope s_law_holds) := ⟨rfl, rfl, rfl, by decide +kernel, rfl, by decide +kernel, by decide +kernel⟩
theorem sc_law_arithmetic : FnScope ["op", "left", "right", "answer", "raised", "e"] ["op", "left", "right"] (defScope s_law_arithmetic) := ⟨rfl, rfl, rfl, by decide +kernel, rfl, by decide +kernel, by decide +kernel⟩
theorem sc_law_signs : FnScope ["word", "answer", "raised", "e"] ["word"] (defScope s_law_signs) := ⟨rfl, rfl, rfl, by decide +kernel, rfl, by decide +kernel, by decide +kernel⟩
theorem sc_law_relations : FnScope ["left", "right", "due", "signs", "k", "told"] ["left", "right"] (defScope s_law_relations) := ⟨rfl, rfl, rfl, by decide +kernel, rfl, by decide +kernel, by decide +kernel⟩
theorem sc_law_fits : FnScope ["number", "told"] ["number"] (defScope s_law_fits) := ⟨rfl, rfl, rfl, by decide +kernel, rfl, by decide +kernel, by decide +kernel⟩
theorem sc_law : FnScope ["script", "state", "op", "left", "right", "pair", "numbers", "number"] ["script"] (defScope s_law) := ⟨rfl, rfl, rfl, by decide +kernel, rfl, by decide +kernel, by decide +kernel⟩
structure Ad where
  f_fits : Addr
  d_fits : FuncData
  f_arithmetic : Addr
  d_arithmetic : FuncData
  f_negate : Addr
  d_negate : FuncData
  f_absolute : Addr
  d_absolute : FuncData
  f_compare : Addr
  d_compare : FuncData
  f_word : Addr
  d_word : FuncData
  f_result : Addr
  d_result : FuncData
  f_quotient : Addr
  d_quotient : FuncData
  f_law_start : Addr
  d_law_start : FuncData
  f_law_take : Addr
  d_law_take : FuncData
  f_law_word : Addr
  d_law_word : FuncData
  f_law_exact : Addr
  d_law_exact : FuncData
  f_law_is_word : Addr
  d_law_is_word : FuncData
  f_law_holds : Addr
  d_law_holds : FuncData
  f_law_arithmetic : Addr
  d_law_arithmetic : FuncData
  f_law_signs : Addr
  d_law_signs : FuncData
  f_law_relations : Addr
  d_law_relations : FuncData
  f_law_fits : Addr
  d_law_fits : FuncData
  f_law : Addr
  d_law : FuncData
  t_MAX : Tok
  t_MIN : Tok
  C_AdaError : Addr
  C_Overflow : Addr
  C_DivisionByZero : Addr
structure Txt (K : PySem.W.Frag) (mg : Str → Option Value) (a : Ad) : Prop where
  g_fits : mg "fits" = some (.ref a.f_fits)
  F_fits : Fun K "fits" "fits" s_fits a.f_fits a.d_fits
  k_fits : PySem.W.keepIn K (.ref a.f_fits) = true
  bd_fits : Binds K a.d_fits ["number"] []
  g_arithmetic : mg "arithmetic" = some (.ref a.f_arithmetic)
  F_arithmetic : Fun K "arithmetic" "arithmetic" s_arithmetic a.f_arithmetic a.d_arithmetic
  k_arithmetic : PySem.W.keepIn K (.ref a.f_arithmetic) = true
  bd_arithmetic : Binds K a.d_arithmetic ["op", "left", "right"] []
  g_negate : mg "negate" = some (.ref a.f_negate)
  F_negate : Fun K "negate" "negate" s_negate a.f_negate a.d_negate
  k_negate : PySem.W.keepIn K (.ref a.f_negate) = true
  bd_negate : Binds K a.d_negate ["word"] []
  g_absolute : mg "absolute" = some (.ref a.f_absolute)
  F_absolute : Fun K "absolute" "absolute" s_absolute a.f_absolute a.d_absolute
  k_absolute : PySem.W.keepIn K (.ref a.f_absolute) = true
  bd_absolute : Binds K a.d_absolute ["word"] []
  g_compare : mg "compare" = some (.ref a.f_compare)
  F_compare : Fun K "compare" "compare" s_compare a.f_compare a.d_compare
  k_compare : PySem.W.keepIn K (.ref a.f_compare) = true
  bd_compare : Binds K a.d_compare ["op", "left", "right"] []
  g__word : mg "_word" = some (.ref a.f_word)
  F__word : Fun K "_word" "_word" s_word a.f_word a.d_word
  k__word : PySem.W.keepIn K (.ref a.f_word) = true
  bd__word : Binds K a.d_word ["number"] []
  g__result : mg "_result" = some (.ref a.f_result)
  F__result : Fun K "_result" "_result" s_result a.f_result a.d_result
  k__result : PySem.W.keepIn K (.ref a.f_result) = true
  bd__result : Binds K a.d_result ["op", "left", "right"] []
  g__quotient : mg "_quotient" = some (.ref a.f_quotient)
  F__quotient : Fun K "_quotient" "_quotient" s_quotient a.f_quotient a.d_quotient
  k__quotient : PySem.W.keepIn K (.ref a.f_quotient) = true
  bd__quotient : Binds K a.d_quotient ["left", "right"] []
  g__law_start : mg "_law_start" = some (.ref a.f_law_start)
  F__law_start : Fun K "_law_start" "_law_start" s_law_start a.f_law_start a.d_law_start
  k__law_start : PySem.W.keepIn K (.ref a.f_law_start) = true
  bd__law_start : Binds K a.d_law_start ["script"] []
  g__law_take : mg "_law_take" = some (.ref a.f_law_take)
  F__law_take : Fun K "_law_take" "_law_take" s_law_take a.f_law_take a.d_law_take
  k__law_take : PySem.W.keepIn K (.ref a.f_law_take) = true
  bd__law_take : Binds K a.d_law_take ["state", "many"] []
  g__law_word : mg "_law_word" = some (.ref a.f_law_word)
  F__law_word : Fun K "_law_word" "_law_word" s_law_word a.f_law_word a.d_law_word
  k__law_word : PySem.W.keepIn K (.ref a.f_law_word) = true
  bd__law_word : Binds K a.d_law_word ["state"] []
  g__law_exact : mg "_law_exact" = some (.ref a.f_law_exact)
  F__law_exact : Fun K "_law_exact" "_law_exact" s_law_exact a.f_law_exact a.d_law_exact
  k__law_exact : PySem.W.keepIn K (.ref a.f_law_exact) = true
  bd__law_exact : Binds K a.d_law_exact ["op", "left", "right"] []
  g__law_is_word : mg "_law_is_word" = some (.ref a.f_law_is_word)
  F__law_is_word : Fun K "_law_is_word" "_law_is_word" s_law_is_word a.f_law_is_word a.d_law_is_word
  k__law_is_word : PySem.W.keepIn K (.ref a.f_law_is_word) = true
  bd__law_is_word : Binds K a.d_law_is_word ["number"] []
  g__law_holds : mg "_law_holds" = some (.ref a.f_law_holds)
  F__law_holds : Fun K "_law_holds" "_law_holds" s_law_holds a.f_law_holds a.d_law_holds
  k__law_holds : PySem.W.keepIn K (.ref a.f_law_holds) = true
  bd__law_holds : Binds K a.d_law_holds ["answer", "raised", "exact"] []
  g__law_arithmetic : mg "_law_arithmetic" = some (.ref a.f_law_arithmetic)
  F__law_arithmetic : Fun K "_law_arithmetic" "_law_arithmetic" s_law_arithmetic a.f_law_arithmetic a.d_law_arithmetic
  k__law_arithmetic : PySem.W.keepIn K (.ref a.f_law_arithmetic) = true
  bd__law_arithmetic : Binds K a.d_law_arithmetic ["op", "left", "right"] []
  g__law_signs : mg "_law_signs" = some (.ref a.f_law_signs)
  F__law_signs : Fun K "_law_signs" "_law_signs" s_law_signs a.f_law_signs a.d_law_signs
  k__law_signs : PySem.W.keepIn K (.ref a.f_law_signs) = true
  bd__law_signs : Binds K a.d_law_signs ["word"] []
  g__law_relations : mg "_law_relations" = some (.ref a.f_law_relations)
  F__law_relations : Fun K "_law_relations" "_law_relations" s_law_relations a.f_law_relations a.d_law_relations
  k__law_relations : PySem.W.keepIn K (.ref a.f_law_relations) = true
  bd__law_relations : Binds K a.d_law_relations ["left", "right"] []
  g__law_fits : mg "_law_fits" = some (.ref a.f_law_fits)
  F__law_fits : Fun K "_law_fits" "_law_fits" s_law_fits a.f_law_fits a.d_law_fits
  k__law_fits : PySem.W.keepIn K (.ref a.f_law_fits) = true
  bd__law_fits : Binds K a.d_law_fits ["number"] []
  g_law : mg "law" = some (.ref a.f_law)
  F_law : Fun K "law" "law" s_law a.f_law a.d_law
  k_law : PySem.W.keepIn K (.ref a.f_law) = true
  bd_law : Binds K a.d_law ["script"] []
  g_MAX : mg "MAX" = some (.int (2147483647) a.t_MAX)
  g_MIN : mg "MIN" = some (.int (-2147483648) a.t_MIN)
  b_ValueError : mg "ValueError" = none
  b_abs : mg "abs" = none
  b_bool : mg "bool" = none
  b_int : mg "int" = none
  b_isinstance : mg "isinstance" = none
  b_len : mg "len" = none
  b_range : mg "range" = none
  g_AdaError : mg "AdaError" = some (.ref a.C_AdaError)
  x_AdaError : PySem.W.excIn K a.C_AdaError [.type "ValueError", .type "Exception", .type "BaseException", .type "object"] "ValueError.__new__" = true
  kC_AdaError : PySem.W.keepIn K (.ref a.C_AdaError) = true
  s1_AdaError : PySem.W.subIn K (.ref a.C_AdaError) (.type "BaseException") = some true
  ty_AdaError : PySem.W.typeIn K (.ref a.C_AdaError) = some (.type "type")
  ic_AdaError : PySem.W.isClsIn K a.C_AdaError = true
  g_Overflow : mg "Overflow" = some (.ref a.C_Overflow)
  x_Overflow : PySem.W.excIn K a.C_Overflow [.type "ValueError", .type "Exception", .type "BaseException", .type "object"] "ValueError.__new__" = true
  kC_Overflow : PySem.W.keepIn K (.ref a.C_Overflow) = true
  s1_Overflow : PySem.W.subIn K (.ref a.C_Overflow) (.type "BaseException") = some true
  ty_Overflow : PySem.W.typeIn K (.ref a.C_Overflow) = some (.type "type")
  ic_Overflow : PySem.W.isClsIn K a.C_Overflow = true
  ec_Overflow : ExcC K a.C_Overflow
  g_DivisionByZero : mg "DivisionByZero" = some (.ref a.C_DivisionByZero)
  x_DivisionByZero : PySem.W.excIn K a.C_DivisionByZero [.type "ValueError", .type "Exception", .type "BaseException", .type "object"] "ValueError.__new__" = true
  kC_DivisionByZero : PySem.W.keepIn K (.ref a.C_DivisionByZero) = true
  s1_DivisionByZero : PySem.W.subIn K (.ref a.C_DivisionByZero) (.type "BaseException") = some true
  ty_DivisionByZero : PySem.W.typeIn K (.ref a.C_DivisionByZero) = some (.type "type")
  ic_DivisionByZero : PySem.W.isClsIn K a.C_DivisionByZero = true
  ec_DivisionByZero : ExcC K a.C_DivisionByZero
  e_Overflow_AdaError : PySem.W.exmOne K (.ref a.C_Overflow) (.ref a.C_AdaError) = some true
  e_DivisionByZero_AdaError : PySem.W.exmOne K (.ref a.C_DivisionByZero) (.ref a.C_AdaError) = some true
  i_Overflow_Overflow : PySem.W.kitOne K (.ref a.C_Overflow) (.ref a.C_Overflow) = some true
  i_Overflow_DivisionByZero : PySem.W.kitOne K (.ref a.C_Overflow) (.ref a.C_DivisionByZero) = some false
  i_Overflow_ValueError : PySem.W.kitOne K (.ref a.C_Overflow) (.type "ValueError") = some true
  i_DivisionByZero_Overflow : PySem.W.kitOne K (.ref a.C_DivisionByZero) (.ref a.C_Overflow) = some false
  i_DivisionByZero_DivisionByZero : PySem.W.kitOne K (.ref a.C_DivisionByZero) (.ref a.C_DivisionByZero) = some true
  i_DivisionByZero_ValueError : PySem.W.kitOne K (.ref a.C_DivisionByZero) (.type "ValueError") = some true
/-! ### mathematics -/
theorem fmod_uniq {l r q m : Int} (e : l = r * q + m) (h : (0 ≤ m ∧ m < r) ∨ (r < m ∧ m ≤ 0)) : l.fmod r = m := by
  rcases h with ⟨h0, h1⟩ | ⟨h0, h1⟩
  · rw [Int.fmod_eq_emod_of_nonneg _ (by omega)]
    exact ((Int.ediv_emod_unique (q := q) (by omega)).mpr ⟨by omega, h0, h1⟩).2
  · rw [Int.fmod_eq_emod]
    by_cases z : m = 0
    · have d : r ∣ l := ⟨q, by omega⟩
      rw [if_pos (.inr d), Int.emod_eq_zero_of_dvd d]
      omega
    · have nd : ¬ (0 ≤ r ∨ r ∣ l) := by
        rintro (x | ⟨c, x⟩)
        · omega
        · have em : m = r * (c - q) := by
            rw [Int.mul_sub]
            omega
          have hc : c - q = 0 ∨ c - q ≥ 1 ∨ c - q ≤ -1 := by omega
          rcases hc with hc | hc | hc
          · rw [hc] at em; omega
          · have k : r * (c - q) ≤ r * 1 := Int.mul_le_mul_of_nonpos_left (by omega) hc
            omega
          · have k : r * (-1) ≤ r * (c - q) := Int.mul_le_mul_of_nonpos_left (by omega) hc
            omega
      rw [if_neg nd]
      have el : l % r = m - r := by
        rw [← Int.emod_neg]
        refine ((Int.ediv_emod_unique (q := -(q + 1)) (by omega)).mpr ⟨?_, by omega, by omega⟩).2
        rw [Int.neg_mul_neg, Int.mul_add]
        omega
      omega
def ab (x : Int) : Int := if x < 0 then -x else x
def quo (l r : Int) : Int := cond (decide (V.bl (decide (l < 0)) = V.bl (decide (r < 0)))) (ab l / ab r) (-(ab l / ab r))
theorem sgn_eq (l r : Int) : decide (V.bl (decide (l < 0)) = V.bl (decide (r < 0))) = (decide (l < 0) == decide (r < 0)) := by
  cases decide (l < 0) <;> cases decide (r < 0) <;> decide
theorem rest_fact {l r : Int} (hr : r ≠ 0) : ∃ t, 0 ≤ t ∧ t < ab r ∧ l - quo l r * r = if l < 0 then -t else t := by
  have hB : 0 < ab r := by unfold ab; split <;> omega
  have hd := Int.mul_ediv_add_emod (ab l) (ab r)
  have h0 := Int.emod_nonneg (ab l) (b := ab r) (by omega)
  have h1 := Int.emod_lt_of_pos (ab l) hB
  refine ⟨ab l % ab r, h0, h1, ?_⟩
  unfold quo
  rw [sgn_eq]
  generalize hq : ab l / ab r = q at *
  generalize ht : ab l % ab r = t at *
  by_cases a : l < 0 <;> by_cases b : r < 0
  · rw [decide_eq_true a, decide_eq_true b, if_pos a]
    have e1 : ab l = -l := if_pos a
    have e2 : ab r = -r := if_pos b
    rw [e1, e2] at hd
    show l - q * r = -t
    rw [Int.neg_mul] at hd
    have := Int.mul_comm q r
    omega
  · rw [decide_eq_true a, decide_eq_false b, if_pos a]
    have e1 : ab l = -l := if_pos a
    have e2 : ab r = r := if_neg b
    rw [e1, e2] at hd
    show l - -q * r = -t
    rw [Int.neg_mul]
    have := Int.mul_comm q r
    omega
  · rw [decide_eq_false a, decide_eq_true b, if_neg a]
    have e1 : ab l = l := if_neg a
    have e2 : ab r = -r := if_pos b
    rw [e1, e2] at hd
    show l - -q * r = t
    rw [Int.neg_mul] at hd ⊢
    have := Int.mul_comm q r
    omega
  · rw [decide_eq_false a, decide_eq_false b, if_neg a]
    have e1 : ab l = l := if_neg a
    have e2 : ab r = r := if_neg b
    rw [e1, e2] at hd
    show l - q * r = t
    have := Int.mul_comm q r
    omega
theorem mod_adj {l r : Int} (hr : r ≠ 0) (h1 : l - quo l r * r ≠ 0) (h2 : decide (l - quo l r * r < 0) ≠ decide (r < 0)) : l - quo l r * r + r = l.fmod r := by
  obtain ⟨t, t0, t1, e⟩ := rest_fact (l := l) hr
  have hc := Int.mul_comm (quo l r) r
  refine (fmod_uniq (q := quo l r - 1) (by rw [Int.mul_sub]; omega) ?_).symm
  by_cases b : r < 0
  · have e2 : ab r = -r := if_pos b
    have : ¬ (l - quo l r * r < 0) := fun x => h2 (by rw [decide_eq_true x, decide_eq_true b])
    refine .inr ?_
    split at e <;> omega
  · have e2 : ab r = r := if_neg b
    have : l - quo l r * r < 0 := Classical.byContradiction fun x => h2 (by rw [decide_eq_false x, decide_eq_false b])
    refine .inl ?_
    split at e <;> omega
theorem mod_same {l r : Int} (hr : r ≠ 0) (h : l - quo l r * r = 0 ∨ decide (l - quo l r * r < 0) = decide (r < 0)) : l - quo l r * r = l.fmod r := by
  obtain ⟨t, t0, t1, e⟩ := rest_fact (l := l) hr
  have hc := Int.mul_comm (quo l r) r
  refine (fmod_uniq (q := quo l r) (by omega) ?_).symm
  by_cases b : r < 0
  · have e2 : ab r = -r := if_pos b
    refine .inr ?_
    rcases h with h | h
    · omega
    · have : l - quo l r * r < 0 := by rw [decide_eq_true b] at h; exact of_decide_eq_true h
      split at e <;> omega
  · have e2 : ab r = r := if_neg b
    refine .inl ?_
    rcases h with h | h
    · omega
    · have : ¬ (l - quo l r * r < 0) := by rw [decide_eq_false b] at h; exact of_decide_eq_false h
      split at e <;> omega
/-! ### the mirrors -/
def wd (x : Int) : Prop := -2147483648 ≤ x ∧ x ≤ 2147483647
def isW (n : Int) : Bool := cond (decide (-2147483648 ≤ n)) (decide (n ≤ 2147483647)) false
theorem wd_of {n : Int} (h : isW n = true) : wd n := by
  unfold isW at h
  cases e : decide (-2147483648 ≤ n) <;> rw [e] at h
  · exact nomatch h
  · exact ⟨of_decide_eq_true e, of_decide_eq_true h⟩
def opS (k : Nat) : Str := (["+", "-", "*", "/", "mod", "rem"] : List Str).getD k ""
theorem o0 : ∀ k : _root_.Fin 6, decide (V.str (opS k.val) = V.str "+") = decide (k.val = 0) := by decide +kernel
theorem o1 : ∀ k : _root_.Fin 6, decide (V.str (opS k.val) = V.str "-") = decide (k.val = 1) := by decide +kernel
theorem o2 : ∀ k : _root_.Fin 6, decide (V.str (opS k.val) = V.str "*") = decide (k.val = 2) := by decide +kernel
theorem o3 : ∀ k : _root_.Fin 6, decide (V.str (opS k.val) = V.str "/") = decide (k.val = 3) := by decide +kernel
theorem o4 : ∀ k : _root_.Fin 6, decide (V.str (opS k.val) = V.str "mod") = decide (k.val = 4) := by decide +kernel
theorem oin : ∀ k : _root_.Fin 6, inV (.str (opS k.val)) [V.str "/", V.str "mod", V.str "rem"] = decide (3 ≤ k.val) := by decide +kernel
def resN (k : Nat) (l r : Int) : Int := match k with
  | 0 => l + r
  | 1 => l - r
  | 2 => l * r
  | 3 => quo l r
  | 4 => l.fmod r
  | _ => l - r * quo l r
def sgS (k : Nat) : Str := (["=", "/=", "<", "<=", ">", ">="] : List Str).getD k ""
theorem s0 : ∀ k : _root_.Fin 6, decide (V.str (sgS k.val) = V.str "=") = decide (k.val = 0) := by decide +kernel
theorem s1 : ∀ k : _root_.Fin 6, decide (V.str (sgS k.val) = V.str "/=") = decide (k.val = 1) := by decide +kernel
theorem s2 : ∀ k : _root_.Fin 6, decide (V.str (sgS k.val) = V.str "<") = decide (k.val = 2) := by decide +kernel
theorem s3 : ∀ k : _root_.Fin 6, decide (V.str (sgS k.val) = V.str "<=") = decide (k.val = 3) := by decide +kernel
theorem s4 : ∀ k : _root_.Fin 6, decide (V.str (sgS k.val) = V.str ">") = decide (k.val = 4) := by decide +kernel
def cmpN (k : Nat) (l r : Int) : Bool := match k with
  | 0 => decide (V.int l = V.int r)
  | 1 => !decide (V.int l = V.int r)
  | 2 => decide (l < r)
  | 3 => decide (l ≤ r)
  | 4 => decide (r < l)
  | _ => decide (r ≤ l)
def lexV (k : Nat) (l r : Int) : V := if 3 ≤ k ∧ r = 0 then .non else .int (resN k l r)
/-! ### the promises -/
def spFits : Sp := fun vs H Q _ => ∃ n : Int, vs = [.int n] ∧ Q (.bl (isW n)) H
def spW (a : Addr) : Sp := fun vs H Q E => ∃ n : Int, vs = [.int n] ∧ (isW n = true → Q (.int n) H) ∧ (isW n = false → E (.ref a) none H)
def spNeg (a : Addr) : Sp := fun vs H Q E => ∃ n : Int, vs = [.int n] ∧ (isW (-n) = true → Q (.int (-n)) H) ∧ (isW (-n) = false → E (.ref a) none H)
def spAbs (a : Addr) : Sp := fun vs H Q E => ∃ n : Int, vs = [.int n] ∧ (isW (ab n) = true → Q (.int (ab n)) H) ∧ (isW (ab n) = false → E (.ref a) none H)
def spCmp : Sp := fun vs H Q _ => ∃ (k : Nat) (l r : Int), k < 6 ∧ vs = [.str (sgS k), .int l, .int r] ∧ Q (.bl (cmpN k l r)) H
def spQuo : Sp := fun vs H Q _ => ∃ (l r : Int), vs = [.int l, .int r] ∧ wd l ∧ wd r ∧ r ≠ 0 ∧ Q (.int (quo l r)) H
def spRes : Sp := fun vs H Q _ => ∃ (k : Nat) (l r : Int), k < 6 ∧ vs = [.str (opS k), .int l, .int r] ∧ wd l ∧ wd r ∧ (3 ≤ k → r ≠ 0) ∧ Q (.int (resN k l r)) H
def spArith (aO aD : Addr) : Sp := fun vs H Q E => ∃ (k : Nat) (l r : Int), k < 6 ∧ vs = [.str (opS k), .int l, .int r] ∧ wd l ∧ wd r ∧ ((3 ≤ k ∧ r = 0) → ∀ H', Same H H' → E (.ref aD) none H') ∧
  (¬ (3 ≤ k ∧ r = 0) → ∀ H', Same H H' → (isW (resN k l r) = true → Q (.int (resN k l r)) H') ∧ (isW (resN k l r) = false → E (.ref aO) none H'))
def spLaw (K : PySem.W.Frag) : Sp := fun vs H Q _ => ∃ (a : Addr) (ns : List Int), vs = [.ref a] ∧ SqL K H a (ns.map V.int) ∧ ns.length ≤ 63 ∧ ∀ H', Q (.bl true) H'
section
variable {P : Program} {w : World} {K : PySem.W.Frag} {mg : Str → Option Value} {base : Heap} {a : Ad}
theorem ok_fits (T : Txt K mg a) : FnOk P w K mg base CX0 1 a.f_fits a.d_fits ["number"] spFits := by
  refine T.F_fits.ok sc_fits (fun vs H Q E h => ?_) (fun cdv A outer s H vs Q E hr h => ?_)
  · obtain ⟨_, rfl, _⟩ := h; rfl
  · obtain ⟨n, rfl, q⟩ := h
    refine ⟨_, (pss_one (ps_ret (pe_chain op_le op_le (pe_glob (v := .int (-2147483648)) rfl T.g_MIN ⟨_, rfl⟩) (pv 0) (pe_glob (v := .int (2147483647)) rfl T.g_MAX ⟨_, rfl⟩)))), ?_⟩
    unfold isW at q
    refine ⟨_, rfl, _, _, rfl, rfl, _, rfl, ite3 (fun e => ?_) (fun e => ?_)⟩ <;> rw [e] at q
    · exact ⟨_, _, rfl, rfl, q⟩
    · exact q
theorem ok_word (T : Txt K mg a) : FnOk P w K mg base (L2.CX P w) 2 a.f_word a.d_word ["number"] (spW a.C_Overflow) := by
  have G_fits : FnOk P w K mg base CX0 1 _ _ _ _ := ok_fits T
  refine T.F__word.okX sc_word (fun vs H Q E h => ?_) (fun cdv A outer s H vs Q E hr h => ?_)
  · obtain ⟨_, rfl, _⟩ := h; rfl
  · obtain ⟨n, rfl, q, qe⟩ := h
    refine ⟨_, (pss_cons (ps_if (pt_not (pt_val (pe_call G_fits (hr.mono (by decide)) rfl T.g_fits T.k_fits T.bd_fits .nil pass0 (pa_cons (pv 0) pa_nil)))) (pss_one (ps_raise rfl (takes_of rfl rfl rfl rfl) (pmk_own PySem.F.excBase_ValueError T.x_Overflow T.g_Overflow T.kC_Overflow (raises_own T.s1_Overflow T.ty_Overflow) rfl))) pss_nil)
      (pss_one (ps_ret (pv 0)))), ?_⟩
    refine ⟨_, rfl, n, rfl, _, rfl, ite3 (fun e => ?_) (fun e => ?_)⟩
    · exact qe (by simpa using e)
    · exact ⟨_, rfl, q (by simpa using e)⟩
theorem ok_negate (T : Txt K mg a) : FnOk P w K mg base (L2.CX P w) 3 a.f_negate a.d_negate ["word"] (spNeg a.C_Overflow) := by
  have G_word : FnOk P w K mg base (L2.CX P w) 2 _ _ _ _ := ok_word T
  refine T.F_negate.okX sc_negate (fun vs H Q E h => ?_) (fun cdv A outer s H vs Q E hr h => ?_)
  · obtain ⟨_, rfl, _⟩ := h; rfl
  · obtain ⟨n, rfl, q, qe⟩ := h
    refine ⟨_, (pss_one (ps_ret (pe_call G_word (hr.mono (by decide)) rfl T.g__word T.k__word T.bd__word .nil (passes_call (takes_of rfl rfl rfl rfl) fun _ _ _ _ z => z) (pa_cons (pe_un un_neg (pv 0)) pa_nil)))), ?_⟩
    exact ⟨_, rfl, _, rfl, -n, rfl, q, qe⟩
theorem ok_absolute (T : Txt K mg a) : FnOk P w K mg base (L2.CX P w) 3 a.f_absolute a.d_absolute ["word"] (spAbs a.C_Overflow) := by
  have G_word : FnOk P w K mg base (L2.CX P w) 2 _ _ _ _ := ok_word T
  refine T.F_absolute.okX sc_absolute (fun vs H Q E h => ?_) (fun cdv A outer s H vs Q E hr h => ?_)
  · obtain ⟨_, rfl, _⟩ := h; rfl
  · obtain ⟨n, rfl, q, qe⟩ := h
    refine ⟨_, (pss_one (ps_ret (pe_call G_word (hr.mono (by decide)) rfl T.g__word T.k__word T.bd__word .nil (passes_call (takes_of rfl rfl rfl rfl) fun _ _ _ _ z => z) (pa_cons (pe_callB call_abs (by rfl) T.b_abs (by decide +kernel) (pa_cons (pv 0) pa_nil)) pa_nil)))), ?_⟩
    exact ⟨_, rfl, _, rfl, ab n, rfl, q, qe⟩
theorem ok_compare (T : Txt K mg a) : FnOk P w K mg base CX0 1 a.f_compare a.d_compare ["op", "left", "right"] spCmp := by
  refine T.F_compare.ok sc_compare (fun vs H Q E h => ?_) (fun cdv A outer s H vs Q E hr h => ?_)
  · obtain ⟨_, _, _, _, rfl, _⟩ := h; rfl
  · obtain ⟨k, l, r, hk, rfl, q⟩ := h
    refine ⟨_, (pss_cons (ps_match (pv 0) (pmc_str (pss_one (ps_ret (pe_cmpR op_eq (pv 1) (pv 2) (nomark _)))) (pmc_str (pss_one (ps_ret (pe_cmpR op_ne (pv 1) (pv 2) (nomark _)))) (pmc_str (pss_one (ps_ret (pe_cmpR op_lt (pv 1) (pv 2) (nomark _)))) (pmc_str (pss_one (ps_ret (pe_cmpR op_le (pv 1) (pv 2) (nomark _)))) (pmc_str (pss_one (ps_ret (pe_cmpR op_gt (pv 1) (pv 2) (nomark _)))) pmc_nil))))))
      (pss_one (ps_ret (pe_cmpR op_ge (pv 1) (pv 2) (nomark _))))), ?_⟩
    refine ⟨_, rfl, rfl, ?_⟩
    rw [s0 ⟨k, hk⟩]
    refine ite3 (fun e => ?_) (fun e0 => ⟨rfl, ?_⟩)
    · obtain rfl : k = 0 := of_decide_eq_true e
      exact ⟨_, rfl, _, rfl, rfl, q⟩
    rw [s1 ⟨k, hk⟩]
    refine ite3 (fun e => ?_) (fun e1 => ⟨rfl, ?_⟩)
    · obtain rfl : k = 1 := of_decide_eq_true e
      exact ⟨_, rfl, _, rfl, rfl, q⟩
    rw [s2 ⟨k, hk⟩]
    refine ite3 (fun e => ?_) (fun e2 => ⟨rfl, ?_⟩)
    · obtain rfl : k = 2 := of_decide_eq_true e
      exact ⟨_, rfl, _, rfl, _, _, rfl, rfl, q⟩
    rw [s3 ⟨k, hk⟩]
    refine ite3 (fun e => ?_) (fun e3 => ⟨rfl, ?_⟩)
    · obtain rfl : k = 3 := of_decide_eq_true e
      exact ⟨_, rfl, _, rfl, _, _, rfl, rfl, q⟩
    rw [s4 ⟨k, hk⟩]
    refine ite3 (fun e => ?_) (fun e4 => ?_)
    · obtain rfl : k = 4 := of_decide_eq_true e
      exact ⟨_, rfl, _, rfl, _, _, rfl, rfl, q⟩
    · obtain rfl : k = 5 := by
        have := of_decide_eq_false e0; have := of_decide_eq_false e1; have := of_decide_eq_false e2; have := of_decide_eq_false e3; have := of_decide_eq_false e4
        simp only at *
        omega
      exact ⟨_, rfl, _, rfl, _, _, rfl, rfl, q⟩
theorem ab_pos {r : Int} (h : r ≠ 0) : 0 < ab r := by unfold ab; split <;> omega
theorem ab_small {r : Int} (h : wd r) : (ab r).natAbs < 2 ^ 33 := by
  obtain ⟨h1, h2⟩ := h
  unfold ab
  split <;> omega
theorem cdw {l r : Int} (h : wd r) (hr : r ≠ 0) : CDivW l (ab r) := wide_div (b := 33) (ab_pos hr) (ab_small h) (by decide) (by decide)
theorem cmulr {l r : Int} (h : wd r) : CMul l r := .inr ⟨by have := h.1; omega, by have := h.2; omega⟩
theorem cmull {l r : Int} (h : wd l) : CMul l r := .inl ⟨by have := h.1; omega, by have := h.2; omega⟩
theorem ok_quotient (T : Txt K mg a) : FnOk P w K mg base CX0 1 a.f_quotient a.d_quotient ["left", "right"] spQuo := by
  refine T.F__quotient.ok sc_quotient (fun vs H Q E h => ?_) (fun cdv A outer s H vs Q E hr h => ?_)
  · obtain ⟨_, _, rfl, _⟩ := h; rfl
  · obtain ⟨l, r, rfl, hl, hr', hn, q⟩ := h
    refine ⟨_, (pss_cons (ps_set (i := 2) sc_quotient.nd rfl (Or.inl rfl) (pe_op op_fdivW (pe_callB call_abs (by rfl) T.b_abs (by decide +kernel) (pa_cons (pv 0) pa_nil)) (pe_callB call_abs (by rfl) T.b_abs (by decide +kernel) (pa_cons (pv 1) pa_nil))))
      (pss_one (ps_ret (pe_ifExp (pt_cmpR op_eq (pe_cmpR op_lt (pv 0) pe_int (nomark _)) (pe_cmpR op_lt (pv 1) pe_int (nomark _)) (nomark _)) (pv 2) (pe_un un_neg (pv 2)))))), ?_⟩
    unfold quo at q
    refine ⟨_, rfl, _, rfl, _, rfl, _, rfl, _, _, rfl, rfl, cdw (l := ab l) hr' hn, ?_⟩
    refine ⟨_, rfl, _, _, rfl, rfl, _, rfl, _, _, rfl, rfl, rfl, _, rfl, ite3 (fun e => ?_) (fun e => ?_)⟩ <;> rw [e] at q
    · exact ⟨_, rfl, q⟩
    · exact ⟨_, rfl, _, rfl, q⟩
theorem ok_result (T : Txt K mg a) : FnOk P w K mg base CX0 2 a.f_result a.d_result ["op", "left", "right"] spRes := by
  have G_quotient : FnOk P w K mg base CX0 1 _ _ _ _ := ok_quotient T
  refine T.F__result.ok sc_result (fun vs H Q E h => ?_) (fun cdv A outer s H vs Q E hr h => ?_)
  · obtain ⟨_, _, _, _, rfl, _⟩ := h; rfl
  · obtain ⟨k, l, r, hk, rfl, hl, hr', hz, q⟩ := h
    refine ⟨_, (pss_cons (ps_match (pv 0) (pmc_str (pss_one (ps_ret (pe_op op_add (pv 1) (pv 2)))) (pmc_str (pss_one (ps_ret (pe_op op_sub (pv 1) (pv 2)))) (pmc_str (pss_one (ps_ret (pe_op op_mul (pv 1) (pv 2)))) (pmc_str (pss_one (ps_ret (pe_call G_quotient (hr.mono (by decide)) rfl T.g__quotient T.k__quotient T.bd__quotient .nil pass0 (pa_cons (pv 1) (pa_cons (pv 2) pa_nil))))) (pmc_str (pss_one (ps_ret (pe_op op_modN (pv 1) (pv 2)))) pmc_nil))))))
      (pss_one (ps_ret (pe_op op_sub (pv 1) (pe_op op_mul (pv 2) (pe_call G_quotient (hr.mono (by decide)) rfl T.g__quotient T.k__quotient T.bd__quotient .nil pass0 (pa_cons (pv 1) (pa_cons (pv 2) pa_nil)))))))), ?_⟩
    refine ⟨_, rfl, rfl, ?_⟩
    rw [o0 ⟨k, hk⟩]
    refine ite3 (fun e => ?_) (fun e0 => ⟨rfl, ?_⟩)
    · obtain rfl : k = 0 := of_decide_eq_true e
      exact ⟨_, rfl, _, rfl, _, _, rfl, rfl, q⟩
    rw [o1 ⟨k, hk⟩]
    refine ite3 (fun e => ?_) (fun e1 => ⟨rfl, ?_⟩)
    · obtain rfl : k = 1 := of_decide_eq_true e
      exact ⟨_, rfl, _, rfl, _, _, rfl, rfl, q⟩
    rw [o2 ⟨k, hk⟩]
    refine ite3 (fun e => ?_) (fun e2 => ⟨rfl, ?_⟩)
    · obtain rfl : k = 2 := of_decide_eq_true e
      exact ⟨_, rfl, _, rfl, _, _, rfl, rfl, cmull hl, q⟩
    rw [o3 ⟨k, hk⟩]
    refine ite3 (fun e => ?_) (fun e3 => ⟨rfl, ?_⟩)
    · obtain rfl : k = 3 := of_decide_eq_true e
      exact ⟨_, rfl, _, rfl, l, r, rfl, hl, hr', hz (by decide), q⟩
    rw [o4 ⟨k, hk⟩]
    refine ite3 (fun e => ?_) (fun e4 => ?_)
    · obtain rfl : k = 4 := of_decide_eq_true e
      exact ⟨_, rfl, _, rfl, _, _, rfl, rfl, hz (by decide), q⟩
    · obtain rfl : k = 5 := by
        have := of_decide_eq_false e0; have := of_decide_eq_false e1; have := of_decide_eq_false e2; have := of_decide_eq_false e3; have := of_decide_eq_false e4
        simp only at *
        omega
      exact ⟨_, rfl, _, rfl, _, rfl, _, rfl, l, r, rfl, hl, hr', hz (by decide), _, _, rfl, rfl, cmull hr', _, _, rfl, rfl, q⟩
theorem ok_arithmetic (T : Txt K mg a) : FnOk P w K mg base (L2.CX P w) 4 a.f_arithmetic a.d_arithmetic ["op", "left", "right"] (spArith a.C_Overflow a.C_DivisionByZero) := by
  have G_word : FnOk P w K mg base (L2.CX P w) 2 _ _ _ _ := ok_word T
  have G_result : FnOk P w K mg base CX0 2 _ _ _ _ := ok_result T
  refine T.F_arithmetic.okX sc_arithmetic (fun vs H Q E h => ?_) (fun cdv A outer s H vs Q E hr h => ?_)
  · obtain ⟨_, _, _, _, rfl, _⟩ := h; rfl
  · obtain ⟨k, l, r, hk, rfl, hl, hr', qz, q⟩ := h
    refine ⟨_, (pss_cons (ps_if (PW.pt (pw_and (pt_cmpR op_inS (pv 0) (pe_tup (pa_cons pe_str (pa_cons pe_str (pa_cons pe_str pa_nil)))) rfl) (pw_and1 (pt_cmpR op_eq (pv 2) pe_int (nomark _))))) (pss_one (ps_raise rfl (takes_of rfl rfl rfl rfl) (pmk_own PySem.F.excBase_ValueError T.x_DivisionByZero T.g_DivisionByZero T.kC_DivisionByZero (raises_own T.s1_DivisionByZero T.ty_DivisionByZero) rfl))) pss_nil)
      (pss_one (ps_ret (pe_call G_word (hr.mono (by decide)) rfl T.g__word T.k__word T.bd__word .nil (passes_call (takes_of rfl rfl rfl rfl) fun _ _ _ _ z => z) (pa_cons (pe_call G_result (hr.mono (by decide)) rfl T.g__result T.k__result T.bd__result .nil pass0 (pa_cons (pv 0) (pa_cons (pv 1) (pa_cons (pv 2) pa_nil)))) pa_nil))))), ?_⟩
    refine ⟨_, rfl, by decide, fun p np => ⟨_, _, rfl, .inr (SqT.of upd_same), rfl, rfl, _, rfl, ?_⟩⟩
    have ss := sN (Same.refl H) np (o := .tup [V.str "/", V.str "mod", V.str "rem"])
    rw [oin ⟨k, hk⟩]
    have go : ¬ (3 ≤ k ∧ r = 0) → tRet (tCall (spW a.C_Overflow) [] E (tCons (tCall spRes [] E0 (tCons (tVar 0) (tCons (tVar 1) (tCons (tVar 2) tNil)))) tNil)) { nx := fun _ H' => Q .non H', rt := Q } [some (.str (opS k)), some (.int l), some (.int r)] (upd H p (.tup [V.str "/", V.str "mod", V.str "rem"])) := fun hn => by
      refine ⟨_, rfl, _, rfl, _, rfl, k, l, r, hk, rfl, hl, hr', fun h3 hz => hn ⟨h3, hz⟩, resN k l r, rfl, ?_⟩
      exact q hn _ ss
    refine ite3 (fun e => ⟨_, rfl, rfl, _, rfl, ite3 (fun e2 => ?_) (fun e2 => ?_)⟩) (fun e => iteF ?_)
    · have hz : r = 0 := by simpa using e2
      exact qz ⟨of_decide_eq_true e, hz⟩ _ ss
    · exact go fun h => by
        have : r ≠ 0 := by simpa using e2
        exact this h.2
    · exact go fun h => of_decide_eq_false e h.1
end
/-! ### the draws: _law_start, _law_take -/
def StAt (H : Hp) (st g : Addr) : Prop := ∃ (gs : List Int) (d s2 s3 : Int), H st = some (.lst [.ref g, .int d, .int s2, .int s3]) ∧ H g = some (.lst (gs.map V.int))
def Fr2 (st g : Addr) (H H' : Hp) : Prop := ∀ b o, H b = some o → b ≠ st → b ≠ g → H' b = some o
theorem StAt.ne {H : Hp} {st g : Addr} (h : StAt H st g) : st ≠ g := by
  obtain ⟨gs, d, s2, s3, h1, h2⟩ := h
  refine ne_of h1 h2 fun e => ?_
  injection e with e
  cases gs with
  | nil => exact nomatch e
  | cons x r => injection e with e _; exact nomatch e
theorem fr2_refl {st g : Addr} {H : Hp} : Fr2 st g H H := fun _ _ e _ _ => e
theorem fr2_trans {st g : Addr} {H H1 H2 : Hp} (x : Fr2 st g H H1) (y : Fr2 st g H1 H2) : Fr2 st g H H2 := fun b o e n1 n2 => y b o (x b o e n1 n2) n1 n2
theorem fr2_st {st g : Addr} {H H1 : Hp} {o : HO} (x : Fr2 st g H H1) : Fr2 st g H (upd H1 st o) := fun b u e n1 n2 => by
  rw [upd_ne n1]; exact x b u e n1 n2
theorem fr2_g {st g : Addr} {H H1 : Hp} {o : HO} (x : Fr2 st g H H1) : Fr2 st g H (upd H1 g o) := fun b u e n1 n2 => by
  rw [upd_ne n2]; exact x b u e n1 n2
theorem fr2_new {st g p : Addr} {H H1 : Hp} {o : HO} (x : Fr2 st g H H1) (n : H1 p = none) : Fr2 st g H (upd H1 p o) := fun b u e n1 n2 => by
  rw [upd_ne (ne_of_none (x b u e n1 n2) n)]; exact x b u e n1 n2
theorem st_new {st g p : Addr} {H : Hp} {o : HO} (x : StAt H st g) (n : H p = none) : StAt (upd H p o) st g := by
  obtain ⟨gs, d, s2, s3, h1, h2⟩ := x
  exact ⟨gs, d, s2, s3, by rw [upd_ne (ne_of_none h1 n)]; exact h1, by rw [upd_ne (ne_of_none h2 n)]; exact h2⟩
theorem st_same {st g : Addr} {H H1 : Hp} (x : StAt H st g) (s : Same H H1) : StAt H1 st g := by
  obtain ⟨gs, d, s2, s3, h1, h2⟩ := x
  exact ⟨gs, d, s2, s3, s _ _ h1, s _ _ h2⟩
theorem fr2_same {st g : Addr} {H H1 : Hp} (s : Same H H1) : Fr2 st g H H1 := fun b o e _ _ => s b o e
/-- what was there ahead of the state -/
theorem same_fr2 {st g : Addr} {H0 H H1 : Hp} (s : Same H0 H) (x : Fr2 st g H H1) (n1 : H0 st = none) (n2 : H0 g = none) : Same H0 H1 := fun b o e => x b o (s b o e) (ne_of_none e n1) (ne_of_none e n2)
def spStart (K : PySem.W.Frag) : Sp := fun vs H Q _ => ∃ (sa : Addr) (ns : List Int), vs = [.ref sa] ∧ SqL K H sa (ns.map V.int) ∧ ns.length ≤ 63 ∧ ∀ (st g : Addr) (H' : Hp), H st = none → H g = none → StAt H' st g → Same H H' → Q (.ref st) H'
def spTake : Sp := fun vs H Q _ => ∃ (st g : Addr) (m : Int), vs = [.ref st, .int m] ∧ StAt H st g ∧ 0 < m ∧ m < 2 ^ 62 ∧ ∀ (v : Int) (H' : Hp), 0 ≤ v → v < m → StAt H' st g → Fr2 st g H H' → Q (.int v) H'
section
variable {P : Program} {w : World} {K : PySem.W.Frag} {mg : Str → Option Value} {base : Heap} {a : Ad}
theorem ok_law_start (T : Txt K mg a) : FnOk P w K mg base CX0 1 a.f_law_start a.d_law_start ["script"] (spStart K) := by
  refine T.F__law_start.ok sc_law_start (fun vs H Q E h => ?_) (fun cdv A outer s H vs Q E hr h => ?_)
  · obtain ⟨_, _, rfl, _⟩ := h; rfl
  · obtain ⟨sa, ns, rfl, hS, hl, q⟩ := h
    refine ⟨_, (pss_cons (ps_set (i := 1) sc_law_start.nd rfl (Or.inl rfl) (pe_lst pa_nil))
      (pss_cons (ps_set (i := 2) sc_law_start.nd rfl (Or.inl rfl) pe_int)
      (pss_cons (ps_for PassesOwn.never rfl (pi_list (pv 0)) (pg_name (i := 3) sc_law_start.nd rfl (Or.inl rfl)) (pss_cons (ps_set (i := 2) sc_law_start.nd rfl (Or.inl rfl) (pe_op op_mod (pe_callTy call_int1 (by rfl) T.b_int (by decide +kernel) (pa_cons (pe_op op_add (pe_op op_add (pe_op op_mul (pv 2) pe_int) (pv 3)) pe_int) pa_nil)) pe_int))
      (pss_one (ps_if (pt_cmpR op_ge (pv 3) (pe_op op_pow pe_int pe_int) (nomark _)) (pss_one (ps_expr (pe_bm PySem.F.plainAttrs_list PySem.F.slot_list_append PySem.F.type_list_append mt_append (pv 1) (pa_cons (pv 3) pa_nil)))) pss_nil))))
      (pss_one (ps_ret (pe_lst (pa_cons (pv 1) (pa_cons pe_int (pa_cons (pe_op op_add pe_int (pe_op op_mod (pe_callTy call_int1 (by rfl) T.b_int (by decide +kernel) (pa_cons (pv 2) pa_nil)) pe_int)) (pa_cons pe_int pa_nil)))))))))), ?_⟩
    refine ⟨by decide, fun g ng => ⟨_, rfl, sa, rfl, ⟨_, (Same.seq (sN (Same.refl H) ng) hS)⟩, for_list (K := K) (a := sa) (xs := ns.map V.int)
      (fun i σ H1 => ∃ (z : Int) (x : Option V) (gs : List Int), σ = [some (.ref sa), some (.ref g), some (.int z), x] ∧ H1 g = some (.lst (gs.map V.int)) ∧ gs.length ≤ i ∧ Same H H1)
      ⟨11, none, [], rfl, upd_same, Nat.le_refl _, sN (Same.refl H) ng⟩ (fun i σ H1 _ ⟨_, _, _, _, _, _, ss⟩ => ss.seq hS) ?_ ?_⟩⟩
    · rintro i x σ H1 hi ⟨z, x0, gs, rfl, hg, hgl, ss⟩
      have hilt : i < ns.length := by
        have := (List.getElem?_eq_some_iff.mp hi).1
        simpa using this
      obtain ⟨c, rfl⟩ : ∃ c, x = V.int c := by
        rw [List.getElem?_map] at hi
        cases e : ns[i]? with
        | none => rw [e] at hi; cases hi
        | some c => rw [e] at hi; exact ⟨c, (Option.some.inj hi).symm⟩
      refine ⟨_, rfl, _, _, rfl, rfl, .inr (by decide), _, rfl, _, _, rfl, rfl, _, _, rfl, rfl, .inl ⟨_, rfl, _, _, rfl, rfl, (by show (0 : Int) < 2147483647; decide), ?_⟩⟩
      refine ⟨_, rfl, _, _, rfl, rfl, ⟨by decide, by decide, by decide⟩, _, _, rfl, rfl, _, rfl, ite3 (fun e => ?_) (fun e => ?_)⟩
      · refine ⟨_, rfl, .inl ⟨rfl, _, SqL.of hg⟩, _, rfl, g, _, _, rfl, rfl, hg, small1000 (by simp; omega), ?_⟩
        exact ⟨_, _, gs ++ [c], rfl, by rw [upd_same, List.map_append]; rfl, by rw [List.length_append]; simp; omega, sUpd ss ng⟩
      · exact ⟨_, _, gs, rfl, hg, by omega, ss⟩
    · rintro σ H1 ⟨z, x0, gs, rfl, hg, _, ss⟩
      refine ⟨_, rfl, _, rfl, .inl ⟨_, rfl, _, _, rfl, rfl, (by show (0 : Int) < 2147483600; decide), _, _, rfl, rfl, (by show 4 ≤ sizeLine; decide), fun st nst => ?_⟩⟩
      refine q st g _ (ss.free nst) ng ⟨gs, _, _, _, upd_same, ?_⟩ (sN ss nst)
      rw [upd_ne (ne_of_none hg nst)]
      exact hg
theorem ok_law_take (T : Txt K mg a) : FnOk P w K mg base CX0 1 a.f_law_take a.d_law_take ["state", "many"] spTake := by
  refine T.F__law_take.ok sc_law_take (fun vs H Q E h => ?_) (fun cdv A outer s H vs Q E hr h => ?_)
  · obtain ⟨_, _, _, rfl, _⟩ := h; rfl
  · obtain ⟨st, g, m, rfl, hSt, hm, hm2, q⟩ := h
    have hdv : ∀ i, CDivW i m := fun i => wide_div (b := 62) hm (by omega) (by decide) (by decide)
    have nsg := hSt.ne
    refine ⟨_, (pss_cut (ps_if (PW.pt (pw_and (pt_cmpR op_eq (pe_ix ix_list (pv 0) pe_int (fun _ _ => rfl)) pe_int (nomark _)) (pw_and1 (pt_cmpR op_gt (pe_callB call_len_seq (by rfl) T.b_len (by decide +kernel) (pa_cons (pe_ix ix_list (pv 0) pe_int (fun _ _ => rfl)) pa_nil)) pe_int (nomark _))))) (pss_one (ps_asg (pe_bm PySem.F.plainAttrs_list PySem.F.slot_list_pop PySem.F.type_list_pop mt_popAt (pe_ix ix_list (pv 0) pe_int (fun _ _ => rfl)) (pa_cons pe_int pa_nil)) (pg_sub (pv 0) pe_int set_list))) pss_nil)
      (pss_cons (ps_if (pt_cmpR op_gt (pe_ix ix_list (pv 0) pe_int (fun _ _ => rfl)) pe_int (nomark _)) (pss_cons (ps_set (i := 2) sc_law_take.nd rfl (Or.inl rfl) (pe_op op_mod (pe_callTy call_int1 (by rfl) T.b_int (by decide +kernel) (pa_cons (pe_ix ix_list (pv 0) pe_int (fun _ _ => rfl)) pa_nil)) (pv 1)))
      (pss_cons (ps_asg (pe_op op_fdivW (pe_ix ix_list (pv 0) pe_int (fun _ _ => rfl)) (pv 1)) (pg_sub (pv 0) pe_int set_list))
      (pss_one (ps_ret (pv 2))))) pss_nil)
      (pss_cons (ps_asg (pe_op op_mod (pe_callTy call_int1 (by rfl) T.b_int (by decide +kernel) (pa_cons (pe_op op_mul (pe_ix ix_list (pv 0) pe_int (fun _ _ => rfl)) pe_int) pa_nil)) pe_int) (pg_sub (pv 0) pe_int set_list))
      (pss_cons (ps_asg (pe_op op_add (pe_ix ix_list (pv 0) pe_int (fun _ _ => rfl)) pe_int) (pg_sub (pv 0) pe_int set_list))
      (pss_cons (ps_set (i := 3) sc_law_take.nd rfl (Or.inl rfl) (pe_op op_mod (pe_callTy call_int1 (by rfl) T.b_int (by decide +kernel) (pa_cons (pe_op op_add (pe_op op_mul (pe_ix ix_list (pv 0) pe_int (fun _ _ => rfl)) pe_int) (pe_op op_mul (pe_ix ix_list (pv 0) pe_int (fun _ _ => rfl)) pe_int)) pa_nil)) pe_int))
      (pss_one (ps_ret (pe_op op_mod (pe_callTy call_int1 (by rfl) T.b_int (by decide +kernel) (pa_cons (pv 3) pa_nil)) (pv 1))))))))), ?_⟩
    obtain ⟨gs, d, s2, s3, h1, h2⟩ := hSt
    refine ⟨fun σ H1 => σ = [some (.ref st), some (.int m), none, none] ∧ ∃ (gs : List Int) (d s2 s3 : Int), H1 st = some (.lst [.ref g, .int d, .int s2, .int s3]) ∧ H1 g = some (.lst (gs.map V.int)) ∧ Fr2 st g H H1, ?_, ?_⟩
    · refine ⟨_, rfl, _, _, _, _, rfl, rfl, SqL.of h1, rfl, rfl, _, rfl, ite3 (fun e1 => ?_) (fun e1 => ?_)⟩
      · refine ⟨_, rfl, _, _, _, _, rfl, rfl, SqL.of h1, rfl, _, _, rfl, .inl (SqL.of h2), _, _, rfl, rfl, _, rfl, ite3 (fun e2 => ?_) (fun e2 => ?_)⟩
        · cases gs with
          | nil => simp at e2
          | cons x r =>
            refine ⟨_, rfl, _, _, _, _, rfl, rfl, SqL.of h1, rfl, .inl ⟨rfl, _, SqL.of h2⟩, g, _, 0, 0, V.int x, rfl, rfl, h2, by decide, by decide, by simp [seqIndex?], by simp, ?_⟩
            have h1' : upd H g (.lst (List.eraseIdx (List.map V.int (x :: r)) 0)) st = some (.lst [.ref g, .int d, .int s2, .int s3]) := by rw [upd_ne nsg]; exact h1
            refine ⟨_, rfl, _, _, _, _, rfl, rfl, h1', rfl, ?_⟩
            exact ⟨rfl, r, x, s2, s3, upd_same, by rw [upd_ne nsg.symm, upd_same]; rfl, fr2_st (fr2_g fr2_refl)⟩
        · exact ⟨rfl, gs, d, s2, s3, h1, h2, fr2_refl⟩
      · exact iteF ⟨rfl, gs, d, s2, s3, h1, h2, fr2_refl⟩
    clear h1 h2 d s2 s3 gs
    rintro σ H1 ⟨rfl, gs, d, s2, s3, h1, h2, f⟩
    refine ⟨_, rfl, _, _, _, _, rfl, rfl, SqL.of h1, rfl, _, _, rfl, rfl, _, rfl, ite3 (fun e1 => ?_) (fun e1 => ?_)⟩
    · refine ⟨_, rfl, _, _, _, _, rfl, rfl, SqL.of h1, rfl, .inl ⟨_, rfl, _, rfl, _, _, rfl, rfl, hm, ?_⟩⟩
      refine ⟨_, rfl, _, _, _, _, rfl, rfl, SqL.of h1, rfl, _, rfl, _, _, rfl, rfl, hdv _, _, rfl, _, _, _, _, rfl, rfl, h1, rfl, ?_⟩
      refine ⟨_, rfl, q _ _ (Int.emod_nonneg _ (by omega)) (Int.emod_lt_of_pos _ hm) ⟨gs, _, _, _, upd_same, by rw [upd_ne nsg.symm]; exact h2⟩ (fr2_st f)⟩
    · refine ⟨_, rfl, _, _, _, _, rfl, rfl, SqL.of h1, rfl, _, _, rfl, rfl, .inr (by decide), .inl ⟨_, rfl, _, _, rfl, rfl, (by show (0 : Int) < 2147483647; decide), _, rfl, _, _, _, _, rfl, rfl, h1, rfl, ?_⟩⟩
      refine ⟨_, rfl, _, _, _, _, rfl, rfl, SqL.of upd_same, rfl, _, _, rfl, rfl, _, rfl, _, _, _, _, rfl, rfl, upd_same, rfl, ?_⟩
      rw [upd_upd]
      refine ⟨_, rfl, _, _, _, _, rfl, rfl, SqL.of upd_same, rfl, _, _, rfl, rfl, .inr (by decide), _, rfl, _, _, _, _, rfl, rfl, SqL.of upd_same, rfl, _, _, rfl, rfl, .inr (by decide), _, _, rfl, rfl, .inl ⟨_, rfl, _, _, rfl, rfl, (by show (0 : Int) < 2147483629; decide), ?_⟩⟩
      refine ⟨_, rfl, .inl ⟨_, rfl, _, rfl, _, _, rfl, rfl, hm, ?_⟩⟩
      exact q _ _ (Int.emod_nonneg _ (by omega)) (Int.emod_lt_of_pos _ hm) ⟨gs, _, _, _, upd_same, by rw [upd_ne nsg.symm]; exact h2⟩ (fr2_st f)
end

/-! ### _law_word -/
def spWordL : Sp := fun vs H Q _ => ∃ (st g : Addr), vs = [.ref st] ∧ StAt H st g ∧ ∀ (v : Int) (H' : Hp), wd v → StAt H' st g → Fr2 st g H H' → Q (.int v) H'
theorem w8 (j : Nat) (h : j < 8) : ∃ x, [V.int 46339, V.int 46340, V.int 46341, V.int (-46341), V.int 65536, V.int (-65536), V.int 32768, V.int (-32768)][j]? = some (V.int x) ∧ wd x := by
  match j, h with
  | 0, _ => exact ⟨_, rfl, by decide, by decide⟩
  | 1, _ => exact ⟨_, rfl, by decide, by decide⟩
  | 2, _ => exact ⟨_, rfl, by decide, by decide⟩
  | 3, _ => exact ⟨_, rfl, by decide, by decide⟩
  | 4, _ => exact ⟨_, rfl, by decide, by decide⟩
  | 5, _ => exact ⟨_, rfl, by decide, by decide⟩
  | 6, _ => exact ⟨_, rfl, by decide, by decide⟩
  | 7, _ => exact ⟨_, rfl, by decide, by decide⟩
section
variable {P : Program} {w : World} {K : PySem.W.Frag} {mg : Str → Option Value} {base : Heap} {a : Ad}
theorem ok_law_word (T : Txt K mg a) : FnOk P w K mg base CX0 2 a.f_law_word a.d_law_word ["state"] spWordL := by
  have G_law_take : FnOk P w K mg base CX0 1 _ _ _ _ := ok_law_take T
  refine T.F__law_word.ok sc_law_word (fun vs H Q E h => ?_) (fun cdv A outer s H vs Q E hr h => ?_)
  · obtain ⟨_, _, rfl, _⟩ := h; rfl
  · obtain ⟨st, g, rfl, hSt, q⟩ := h
    refine ⟨_, (pss_cons (ps_set (i := 1) sc_law_word.nd rfl (Or.inl rfl) (pe_call G_law_take (hr.mono (by decide)) rfl T.g__law_take T.k__law_take T.bd__law_take .nil pass0 (pa_cons (pv 0) (pa_cons pe_int pa_nil))))
      (pss_cons (ps_if (pt_cmpR op_lt (pv 1) pe_int (nomark _)) (pss_one (ps_ret (pe_op op_sub (pe_call G_law_take (hr.mono (by decide)) rfl T.g__law_take T.k__law_take T.bd__law_take .nil pass0 (pa_cons (pv 0) (pa_cons pe_int pa_nil))) pe_int))) pss_nil)
      (pss_cons (ps_if (pt_cmpR op_eq (pv 1) pe_int (nomark _)) (pss_one (ps_ret (pe_op op_sub (pe_call G_law_take (hr.mono (by decide)) rfl T.g__law_take T.k__law_take T.bd__law_take .nil pass0 (pa_cons (pv 0) (pa_cons pe_int pa_nil))) pe_int))) pss_nil)
      (pss_cons (ps_if (pt_cmpR op_eq (pv 1) pe_int (nomark _)) (pss_one (ps_ret (pe_op op_sub pe_int (pe_call G_law_take (hr.mono (by decide)) rfl T.g__law_take T.k__law_take T.bd__law_take .nil pass0 (pa_cons (pv 0) (pa_cons pe_int pa_nil)))))) pss_nil)
      (pss_cons (ps_if (pt_cmpR op_eq (pv 1) pe_int (nomark _)) (pss_one (ps_ret (pe_ix ix_list (pe_lst (pa_cons pe_int (pa_cons pe_int (pa_cons pe_int (pa_cons (pe_un un_neg pe_int) (pa_cons pe_int (pa_cons (pe_un un_neg pe_int) (pa_cons pe_int (pa_cons (pe_un un_neg pe_int) pa_nil))))))))) (pe_call G_law_take (hr.mono (by decide)) rfl T.g__law_take T.k__law_take T.bd__law_take .nil pass0 (pa_cons (pv 0) (pa_cons pe_int pa_nil))) (fun _ _ => rfl)))) pss_nil)
      (pss_one (ps_ret (pe_op op_sub (pe_op op_add (pe_op op_mul (pe_call G_law_take (hr.mono (by decide)) rfl T.g__law_take T.k__law_take T.bd__law_take .nil pass0 (pa_cons (pv 0) (pa_cons pe_int pa_nil))) pe_int) (pe_call G_law_take (hr.mono (by decide)) rfl T.g__law_take T.k__law_take T.bd__law_take .nil pass0 (pa_cons (pv 0) (pa_cons pe_int pa_nil)))) pe_int)))))))), ?_⟩
    refine ⟨_, rfl, st, g, 7, rfl, hSt, by decide, by decide, fun k H1 k0 k7 S1 F1 => ?_⟩
    refine ⟨_, rfl, _, _, rfl, rfl, _, rfl, ite3 (fun e => ?_) (fun e => ?_)⟩
    · refine ⟨_, rfl, st, g, 19, rfl, S1, by decide, by decide, fun v H2 v0 v1 S2 F2 => ⟨_, _, rfl, rfl, ?_⟩⟩
      exact q _ _ ⟨by omega, by omega⟩ S2 (fr2_trans F1 F2)
    refine ⟨_, rfl, rfl, _, rfl, ite3 (fun e => ?_) (fun e => ?_)⟩
    · refine ⟨_, rfl, st, g, 4, rfl, S1, by decide, by decide, fun v H2 v0 v1 S2 F2 => ⟨_, _, rfl, rfl, ?_⟩⟩
      exact q _ _ ⟨by omega, by omega⟩ S2 (fr2_trans F1 F2)
    refine ⟨_, rfl, rfl, _, rfl, ite3 (fun e => ?_) (fun e => ?_)⟩
    · refine ⟨_, rfl, st, g, 4, rfl, S1, by decide, by decide, fun v H2 v0 v1 S2 F2 => ⟨_, _, rfl, rfl, ?_⟩⟩
      exact q _ _ ⟨by omega, by omega⟩ S2 (fr2_trans F1 F2)
    refine ⟨_, rfl, rfl, _, rfl, ite3 (fun e => ?_) (fun e => ?_)⟩
    · refine ⟨_, rfl, _, rfl, _, rfl, (by show 8 ≤ sizeLine; decide), fun p np => ⟨_, rfl, st, g, 8, rfl, st_new S1 np, by decide, by decide, fun v H2 v0 v1 S2 F2 => ?_⟩⟩
      obtain ⟨j, rfl⟩ : ∃ j : Nat, v = (j : Int) := ⟨v.toNat, by omega⟩
      obtain ⟨x, hx, hw⟩ := w8 j (by omega)
      obtain ⟨_, _, _, _, h1, h2⟩ := id S1
      have hp := F2 p _ upd_same (ne_of_none h1 np).symm (ne_of_none h2 np).symm
      refine ⟨_, _, _, _, rfl, rfl, SqL.of hp, atI_nat hx, ?_⟩
      exact q _ _ hw S2 (fr2_trans (fr2_new F1 np) F2)
    · refine ⟨_, rfl, st, g, 65536, rfl, S1, by decide, by decide, fun v H2 v0 v1 S2 F2 => ⟨_, _, rfl, rfl, .inr (by decide), ?_⟩⟩
      refine ⟨_, rfl, st, g, 65536, rfl, S2, by decide, by decide, fun v' H3 v0' v1' S3 F3 => ⟨_, _, rfl, rfl, _, _, rfl, rfl, ?_⟩⟩
      exact q _ _ ⟨by omega, by omega⟩ S3 (fr2_trans (fr2_trans F1 F2) F3)
end

/-! ### the law's own helpers -/
def spExact : Sp := fun vs H Q _ => ∃ (k : Nat) (l r : Int), k < 6 ∧ vs = [.str (opS k), .int l, .int r] ∧ wd l ∧ wd r ∧ Q (lexV k l r) H
def hold3 (K : PySem.W.Frag) (H : Hp) (x ex : V) (p : Addr) : Prop :=
  (ex = .non ∧ H p = some (.lst [.bl false, .bl true, .bl true])) ∨
  (∃ n, ex = .int n ∧ isW n = false ∧ H p = some (.lst [.bl true, .bl false, .bl true])) ∨
  (∃ n, ex = .int n ∧ isW n = true ∧ x = .int n ∧ H p = some (.lst []))
def spHolds (K : PySem.W.Frag) : Sp := fun vs H Q _ => ∃ (x ex : V) (p : Addr), vs = [x, .ref p, ex] ∧ hold3 K H x ex p ∧ ∀ H', Same H H' → Q (.bl true) H'
def spLA : Sp := fun vs H Q _ => ∃ (k : Nat) (l r : Int), k < 6 ∧ vs = [.str (opS k), .int l, .int r] ∧ wd l ∧ wd r ∧ ∀ H', Same H H' → Q (.bl true) H'
def spLS : Sp := fun vs H Q _ => ∃ (l : Int), vs = [.int l] ∧ wd l ∧ ∀ H', Same H H' → Q (.bl true) H'
def spLR : Sp := fun vs H Q _ => ∃ (l r : Int), vs = [.int l, .int r] ∧ ∀ H', Same H H' → Q (.bl true) H'
def spLF : Sp := fun vs H Q _ => ∃ (n : Int), vs = [.int n] ∧ Q (.bl true) H
section
variable {P : Program} {w : World} {K : PySem.W.Frag} {mg : Str → Option Value} {base : Heap} {a : Ad}
theorem ok_law_is_word (T : Txt K mg a) : FnOk P w K mg base CX0 1 a.f_law_is_word a.d_law_is_word ["number"] spFits := by
  refine T.F__law_is_word.ok sc_law_is_word (fun vs H Q E h => ?_) (fun cdv A outer s H vs Q E hr h => ?_)
  · obtain ⟨_, rfl, _⟩ := h; rfl
  · obtain ⟨n, rfl, q⟩ := h
    refine ⟨_, (pss_one (ps_ret (pe_and (pe_cmpR op_le (pe_un un_neg pe_int) (pv 0) (nomark _)) (pe_one (pe_cmpR op_le (pv 0) pe_int (nomark _)))))), ?_⟩
    unfold isW at q
    refine ⟨_, rfl, _, rfl, _, _, rfl, rfl, _, rfl, ite3 (fun e => ?_) (fun e => ?_)⟩
    · have e' : decide (-2147483648 ≤ n) = true := e
      rw [e'] at q
      exact ⟨_, rfl, _, _, rfl, rfl, q⟩
    · have e' : decide (-2147483648 ≤ n) = false := e
      rw [e'] at q
      exact q
theorem ok_law_exact (T : Txt K mg a) : FnOk P w K mg base CX0 1 a.f_law_exact a.d_law_exact ["op", "left", "right"] spExact := by
  refine T.F__law_exact.ok sc_law_exact (fun vs H Q E h => ?_) (fun cdv A outer s H vs Q E hr h => ?_)
  · obtain ⟨_, _, _, _, rfl, _⟩ := h; rfl
  · obtain ⟨k, l, r, hk, rfl, hl, hr', q⟩ := h
    refine ⟨_, (pss_cons (ps_if (pt_cmpR op_eq (pv 0) pe_str (nomark _)) (pss_one (ps_ret (pe_op op_add (pv 1) (pv 2)))) pss_nil)
      (pss_cons (ps_if (pt_cmpR op_eq (pv 0) pe_str (nomark _)) (pss_one (ps_ret (pe_op op_sub (pv 1) (pv 2)))) pss_nil)
      (pss_cons (ps_if (pt_cmpR op_eq (pv 0) pe_str (nomark _)) (pss_one (ps_ret (pe_op op_mul (pv 1) (pv 2)))) pss_nil)
      (pss_cons (ps_if (pt_cmpR op_eq (pv 2) pe_int (nomark _)) (pss_one (ps_ret pe_non)) pss_nil)
      (pss_cons (ps_set (i := 3) sc_law_exact.nd rfl (Or.inl rfl) (pe_op op_fdivW (pe_callB call_abs (by rfl) T.b_abs (by decide +kernel) (pa_cons (pv 1) pa_nil)) (pe_callB call_abs (by rfl) T.b_abs (by decide +kernel) (pa_cons (pv 2) pa_nil))))
      (pss_cut (ps_if (pt_cmpR op_ne (pe_cmpR op_lt (pv 1) pe_int (nomark _)) (pe_cmpR op_lt (pv 2) pe_int (nomark _)) (nomark _)) (pss_one (ps_set (i := 3) sc_law_exact.nd rfl (Or.inl rfl) (pe_un un_neg (pv 3)))) pss_nil)
      (pss_cons (ps_set (i := 4) sc_law_exact.nd rfl (Or.inl rfl) (pe_op op_sub (pv 1) (pe_op op_mul (pv 3) (pv 2))))
      (pss_cons (ps_if (pt_cmpR op_eq (pv 0) pe_str (nomark _)) (pss_one (ps_ret (pv 3))) pss_nil)
      (pss_cut (ps_if (PW.pt (pw_and (pt_cmpR op_eq (pv 0) pe_str (nomark _)) (pw_and (pt_cmpR op_ne (pv 4) pe_int (nomark _)) (pw_and1 (pt_cmpR op_ne (pe_cmpR op_lt (pv 4) pe_int (nomark _)) (pe_cmpR op_lt (pv 2) pe_int (nomark _)) (nomark _)))))) (pss_one (ps_set (i := 4) sc_law_exact.nd rfl (Or.inl rfl) (pe_op op_add (pv 4) (pv 2)))) pss_nil)
      (pss_one (ps_ret (pv 4)))))))))))), ?_⟩
    refine ⟨_, rfl, rfl, _, rfl, ?_⟩
    rw [o0 ⟨k, hk⟩]
    refine ite3 (fun e => ?_) (fun e0 => ?_)
    · obtain rfl : k = 0 := of_decide_eq_true e
      exact ⟨_, rfl, _, rfl, _, _, rfl, rfl, q⟩
    refine ⟨_, rfl, rfl, _, rfl, ?_⟩
    rw [o1 ⟨k, hk⟩]
    refine ite3 (fun e => ?_) (fun e1 => ?_)
    · obtain rfl : k = 1 := of_decide_eq_true e
      exact ⟨_, rfl, _, rfl, _, _, rfl, rfl, q⟩
    refine ⟨_, rfl, rfl, _, rfl, ?_⟩
    rw [o2 ⟨k, hk⟩]
    refine ite3 (fun e => ?_) (fun e2 => ?_)
    · obtain rfl : k = 2 := of_decide_eq_true e
      exact ⟨_, rfl, _, rfl, _, _, rfl, rfl, cmull hl, q⟩
    have k3 : 3 ≤ k := by
      have := of_decide_eq_false e0; have := of_decide_eq_false e1; have := of_decide_eq_false e2
      simp only at *
      omega
    refine ⟨_, rfl, rfl, _, rfl, ite3 (fun e => ?_) (fun e => ?_)⟩
    · have hz : r = 0 := by simpa using e
      rw [show lexV k l r = .non from if_pos ⟨k3, hz⟩] at q
      exact q
    have hz : r ≠ 0 := by simpa using e
    rw [show lexV k l r = .int (resN k l r) from if_neg fun h => hz h.2] at q
    refine ⟨_, rfl, _, rfl, _, rfl, _, rfl, _, _, rfl, rfl, cdw (l := ab l) hr' hz, ?_⟩
    refine ⟨fun σ H' => σ = [some (.str (opS k)), some (.int l), some (.int r), some (.int (quo l r)), none] ∧ H' = H, ?_, ?_⟩
    · have eq : quo l r = cond (decide (V.bl (decide (l < 0)) = V.bl (decide (r < 0)))) (ab l / ab r) (-(ab l / ab r)) := rfl
      refine ⟨_, rfl, _, _, rfl, rfl, _, rfl, _, _, rfl, rfl, rfl, _, rfl, ite3 (fun e => ?_) (fun e => ?_)⟩
      · have e' : decide (V.bl (decide (l < 0)) = V.bl (decide (r < 0))) = false := by simpa using e
        rw [e'] at eq
        exact ⟨_, rfl, _, rfl, by rw [eq]; rfl, rfl⟩
      · have e' : decide (V.bl (decide (l < 0)) = V.bl (decide (r < 0))) = true := by simpa using e
        rw [e'] at eq
        exact ⟨by rw [eq]; rfl, rfl⟩
    rintro σ H' ⟨rfl, rfl⟩
    refine ⟨_, rfl, _, rfl, _, rfl, _, _, rfl, rfl, cmulr hr', _, _, rfl, rfl, ?_⟩
    refine ⟨_, rfl, rfl, _, rfl, ?_⟩
    rw [o3 ⟨k, hk⟩]
    refine ite3 (fun e => ?_) (fun e3 => ?_)
    · obtain rfl : k = 3 := of_decide_eq_true e
      exact ⟨_, rfl, q⟩
    refine ⟨fun σ H'' => σ = [some (.str (opS k)), some (.int l), some (.int r), some (.int (quo l r)), some (.int (resN k l r))] ∧ H'' = H', ?_, ?_⟩
    · refine ⟨_, rfl, rfl, _, rfl, ?_⟩
      rw [o4 ⟨k, hk⟩]
      refine ite3 (fun e => ?_) (fun e4 => ?_)
      · obtain rfl : k = 4 := of_decide_eq_true e
        refine ⟨_, rfl, rfl, _, rfl, ite3 (fun f1 => ?_) (fun f1 => ?_)⟩
        · have g1 : l - quo l r * r ≠ 0 := by simpa using f1
          refine ⟨_, rfl, _, _, rfl, rfl, _, rfl, _, _, rfl, rfl, rfl, _, rfl, ite3 (fun f2 => ?_) (fun f2 => ?_)⟩
          · have g2 : decide (l - quo l r * r < 0) ≠ decide (r < 0) := by simpa using f2
            exact ⟨_, rfl, _, rfl, _, _, rfl, rfl, by rw [show resN 4 l r = l - quo l r * r + r from (mod_adj hz g1 g2).symm]; rfl, rfl⟩
          · have g2 : decide (l - quo l r * r < 0) = decide (r < 0) := by simpa using f2
            exact ⟨by rw [show resN 4 l r = l - quo l r * r from (mod_same hz (.inr g2)).symm]; rfl, rfl⟩
        · have g1 : l - quo l r * r = 0 := by simpa using f1
          exact iteF ⟨by rw [show resN 4 l r = l - quo l r * r from (mod_same hz (.inl g1)).symm]; rfl, rfl⟩
      · obtain rfl : k = 5 := by
          have := of_decide_eq_false e3; have := of_decide_eq_false e4
          simp only at *
          omega
        refine iteF ⟨?_, rfl⟩
        show _ = [some (V.str (opS 5)), some (.int l), some (.int r), some (.int (quo l r)), some (.int (l - r * quo l r))]
        rw [Int.mul_comm r]
        rfl
    rintro σ H'' ⟨rfl, rfl⟩
    exact ⟨_, rfl, q⟩
theorem ok_law_holds (T : Txt K mg a) : FnOk P w K mg base CX0 2 a.f_law_holds a.d_law_holds ["answer", "raised", "exact"] (spHolds K) := by
  have G_law_is_word : FnOk P w K mg base CX0 1 _ _ _ _ := ok_law_is_word T
  refine T.F__law_holds.ok sc_law_holds (fun vs H Q E h => ?_) (fun cdv A outer s H vs Q E hr h => ?_)
  · obtain ⟨_, _, _, rfl, _⟩ := h; rfl
  · obtain ⟨x, ex, p, rfl, h3, q⟩ := h
    refine ⟨_, (pss_cons (ps_if (pt_cmpR op_isN (pv 2) pe_non (nomark _)) (pss_one (ps_ret (pe_cmpR (op_eqD hr.units) (pv 1) (pe_lst (pa_cons pe_bl (pa_cons pe_bl (pa_cons pe_bl pa_nil)))) (nomark _)))) pss_nil)
      (pss_cons (ps_if (pt_not (pt_val (pe_call G_law_is_word (hr.mono (by decide)) rfl T.g__law_is_word T.k__law_is_word T.bd__law_is_word .nil pass0 (pa_cons (pv 2) pa_nil)))) (pss_one (ps_ret (pe_cmpR (op_eqD hr.units) (pv 1) (pe_lst (pa_cons pe_bl (pa_cons pe_bl (pa_cons pe_bl pa_nil)))) (nomark _)))) pss_nil)
      (pss_cons (ps_if (pt_cmpR (op_neD hr.units) (pv 1) (pe_lst pa_nil) (nomark _)) (pss_one (ps_ret pe_bl)) pss_nil)
      (pss_one (ps_ret (pe_and (pe_callB call_isi (by rfl) T.b_isinstance (by decide +kernel) (pa_cons (pv 0) (pa_cons (pe_bltn (v := .ty "int") (by rfl) T.b_int (by decide +kernel) rfl) pa_nil))) (pe_and (pe_not (pe_callB call_isi (by rfl) T.b_isinstance (by decide +kernel) (pa_cons (pv 0) (pa_cons (pe_bltn (v := .ty "bool") (by rfl) T.b_bool (by decide +kernel) rfl) pa_nil)))) (pe_one (pe_cmpR op_eq (pv 0) (pv 2) (nomark _)))))))))), ?_⟩
    rcases h3 with ⟨rfl, hp⟩ | ⟨n, rfl, hw, hp⟩ | ⟨n, rfl, hw, rfl, hp⟩
    · refine ⟨_, rfl, rfl, _, rfl, iteT ⟨_, rfl, (by show 3 ≤ sizeLine; decide), fun p2 n2 => ?_⟩⟩
      have hp' : upd H p2 (.lst [.bl false, .bl true, .bl true]) p = some (.lst [.bl false, .bl true, .bl true]) := by rw [upd_ne (ne_of_none hp n2)]; exact hp
      exact ⟨_, _, .lst (SqL.of hp') (.cons (.bl _) (.cons (.bl _) (.cons (.bl _) .nil))), .lst (SqL.of upd_same) (.cons (.bl _) (.cons (.bl _) (.cons (.bl _) .nil))), rfl, rfl, q _ (sN (Same.refl H) n2)⟩
    · refine ⟨_, rfl, rfl, _, rfl, iteF ⟨_, rfl, n, rfl, _, rfl, ?_⟩⟩
      rw [hw]
      refine iteT ⟨_, rfl, (by show 3 ≤ sizeLine; decide), fun p2 n2 => ?_⟩
      have hp' : upd H p2 (.lst [.bl true, .bl false, .bl true]) p = some (.lst [.bl true, .bl false, .bl true]) := by rw [upd_ne (ne_of_none hp n2)]; exact hp
      exact ⟨_, _, .lst (SqL.of hp') (.cons (.bl _) (.cons (.bl _) (.cons (.bl _) .nil))), .lst (SqL.of upd_same) (.cons (.bl _) (.cons (.bl _) (.cons (.bl _) .nil))), rfl, rfl, q _ (sN (Same.refl H) n2)⟩
    · refine ⟨_, rfl, rfl, _, rfl, iteF ⟨_, rfl, n, rfl, _, rfl, ?_⟩⟩
      rw [hw]
      refine iteF ⟨_, rfl, by decide, fun p2 n2 => ?_⟩
      have hp' : upd H p2 (.lst []) p = some (.lst []) := by rw [upd_ne (ne_of_none hp n2)]; exact hp
      refine ⟨_, _, .lst (SqL.of hp') .nil, .lst (SqL.of upd_same) .nil, rfl, rfl, _, rfl, iteF ?_⟩
      refine ⟨_, rfl, _, _, _, _, _, rfl, .ty _, .base (.int _), kit_ty (by decide +kernel : kitB "int" "int" = some true), _, rfl, iteT ?_⟩
      refine ⟨_, rfl, _, _, _, _, _, rfl, .ty _, .base (.int _), kit_ty (by decide +kernel : kitB "int" "bool" = some false), _, rfl, _, rfl, iteT ?_⟩
      refine ⟨_, rfl, _, rfl, rfl, ?_⟩
      rw [show decide (V.int n = V.int n) = true from decide_eq_true rfl]
      exact q _ (sN (Same.refl H) n2)
theorem ok_law_arithmetic (T : Txt K mg a) : FnOk P w K mg base CX0 5 a.f_law_arithmetic a.d_law_arithmetic ["op", "left", "right"] spLA := by
  have G_arithmetic : FnOk P w K mg base (L2.CX P w) 4 _ _ _ _ := ok_arithmetic T
  have G_law_exact : FnOk P w K mg base CX0 1 _ _ _ _ := ok_law_exact T
  have G_law_holds : FnOk P w K mg base CX0 2 _ _ _ _ := ok_law_holds T
  refine T.F__law_arithmetic.ok sc_law_arithmetic (fun vs H Q E h => ?_) (fun cdv A outer s H vs Q E hr h => ?_)
  · obtain ⟨_, _, _, _, rfl, _⟩ := h; rfl
  · obtain ⟨k, l, r, hk, rfl, hl, hr', q⟩ := h
    refine ⟨_, (pss_cons (ps_set (i := 3) sc_law_arithmetic.nd rfl (Or.inl rfl) pe_non)
      (pss_cons (ps_set (i := 4) sc_law_arithmetic.nd rfl (Or.inl rfl) (pe_lst pa_nil))
      (pss_cons (ps_try_as (i := 5) rfl rfl sc_law_arithmetic.nd rfl rfl ⟨rfl, by decide, Or.inl T.g_AdaError⟩ takes0 (fun W pn xe tk _ => (pss_one (ps_set (i := 3) sc_law_arithmetic.nd rfl (Or.inl rfl) (pe_callS G_arithmetic (hr.mono (by decide)) rfl T.g_arithmetic T.k_arithmetic T.bd_arithmetic (fun σ => passAt tk σ) (pa_cons (pv 0) (pa_cons (pv 1) (pa_cons (pv 2) pa_nil))))))) (fun av oe cls dd pn hz hf => (pss_one (ps_set (i := 4) sc_law_arithmetic.nd rfl (Or.inl rfl) (pe_lst (pa_cons (pe_callB (call_isEx hz hf) (by rfl) T.b_isinstance (by decide +kernel) (pa_cons (pv 5) (pa_cons (pe_glob (v := .ref a.C_Overflow) rfl T.g_Overflow rfl) pa_nil))) (pa_cons (pe_callB (call_isEx hz hf) (by rfl) T.b_isinstance (by decide +kernel) (pa_cons (pv 5) (pa_cons (pe_glob (v := .ref a.C_DivisionByZero) rfl T.g_DivisionByZero rfl) pa_nil))) (pa_cons (pe_callB (call_isEx hz hf) (by rfl) T.b_isinstance (by decide +kernel) (pa_cons (pv 5) (pa_cons (pe_bltn (v := .ty "ValueError") (by rfl) T.b_ValueError (by decide +kernel) rfl) pa_nil))) pa_nil))))))))
      (pss_one (ps_ret (pe_call G_law_holds (hr.mono (by decide)) rfl T.g__law_holds T.k__law_holds T.bd__law_holds .nil pass0 (pa_cons (pv 3) (pa_cons (pv 4) (pa_cons (pe_call G_law_exact (hr.mono (by decide)) rfl T.g__law_exact T.k__law_exact T.bd__law_exact .nil pass0 (pa_cons (pv 0) (pa_cons (pv 1) (pa_cons (pv 2) pa_nil)))) pa_nil))))))))), ?_⟩
    refine ⟨by decide, fun p np => ?_⟩
    have s0 := sN (Same.refl H) np (o := .lst [])
    refine ⟨_, rfl, _, rfl, _, rfl, k, l, r, hk, rfl, hl, hr', fun hz H1 s1 => ?_, fun hn H1 s1 => ⟨fun hw => ?_, fun hw => ?_⟩⟩
    · refine ⟨true, T.e_DivisionByZero_AdaError, fun _ av nav => ?_, fun z => nomatch z⟩
      refine ⟨_, rfl, _, rfl, rfl, T.ec_DivisionByZero, _, _, _, rfl, fun u hu => hu, T.i_DivisionByZero_Overflow, ?_⟩
      refine ⟨_, rfl, _, rfl, rfl, T.ec_DivisionByZero, _, _, _, rfl, fun u hu => hu, T.i_DivisionByZero_DivisionByZero, ?_⟩
      refine ⟨_, rfl, _, rfl, rfl, T.ec_DivisionByZero, _, _, _, rfl, fun u hu => hu, T.i_DivisionByZero_ValueError, (by show 3 ≤ sizeLine; decide), fun p2 n2 => ?_⟩
      refine ⟨_, rfl, _, rfl, _, rfl, _, rfl, _, rfl, k, l, r, hk, rfl, hl, hr', ?_⟩
      rw [show lexV k l r = .non from if_pos hz]
      exact ⟨_, _, p2, rfl, .inl ⟨rfl, upd_same⟩, fun H' s' => q _ ((sN (s0.trans s1) n2).trans s')⟩
    · refine ⟨_, rfl, _, rfl, _, rfl, _, rfl, _, rfl, k, l, r, hk, rfl, hl, hr', ?_⟩
      rw [show lexV k l r = .int (resN k l r) from if_neg hn]
      exact ⟨_, _, p, rfl, .inr (.inr ⟨_, rfl, hw, rfl, s1 _ _ upd_same⟩), fun H' s' => q _ ((s0.trans s1).trans s')⟩
    · refine ⟨true, T.e_Overflow_AdaError, fun _ av nav => ?_, fun z => nomatch z⟩
      refine ⟨_, rfl, _, rfl, rfl, T.ec_Overflow, _, _, _, rfl, fun u hu => hu, T.i_Overflow_Overflow, ?_⟩
      refine ⟨_, rfl, _, rfl, rfl, T.ec_Overflow, _, _, _, rfl, fun u hu => hu, T.i_Overflow_DivisionByZero, ?_⟩
      refine ⟨_, rfl, _, rfl, rfl, T.ec_Overflow, _, _, _, rfl, fun u hu => hu, T.i_Overflow_ValueError, (by show 3 ≤ sizeLine; decide), fun p2 n2 => ?_⟩
      refine ⟨_, rfl, _, rfl, _, rfl, _, rfl, _, rfl, k, l, r, hk, rfl, hl, hr', ?_⟩
      rw [show lexV k l r = .int (resN k l r) from if_neg hn]
      exact ⟨_, _, p2, rfl, .inr (.inl ⟨_, rfl, hw, upd_same⟩), fun H' s' => q _ ((sN (s0.trans s1) n2).trans s')⟩
theorem ok_law_signs (T : Txt K mg a) : FnOk P w K mg base CX0 5 a.f_law_signs a.d_law_signs ["word"] spLS := by
  have G_negate : FnOk P w K mg base (L2.CX P w) 3 _ _ _ _ := ok_negate T
  have G_absolute : FnOk P w K mg base (L2.CX P w) 3 _ _ _ _ := ok_absolute T
  have G_law_holds : FnOk P w K mg base CX0 2 _ _ _ _ := ok_law_holds T
  refine T.F__law_signs.ok sc_law_signs (fun vs H Q E h => ?_) (fun cdv A outer s H vs Q E hr h => ?_)
  · obtain ⟨_, rfl, _⟩ := h; rfl
  · obtain ⟨l, rfl, hl, q⟩ := h
    refine ⟨_, (pss_cons (ps_set (i := 1) sc_law_signs.nd rfl (Or.inl rfl) pe_non)
      (pss_cons (ps_set (i := 2) sc_law_signs.nd rfl (Or.inl rfl) (pe_lst pa_nil))
      (pss_cut (ps_try_as (i := 3) rfl rfl sc_law_signs.nd rfl rfl ⟨rfl, by decide, Or.inl T.g_AdaError⟩ takes0 (fun W pn xe tk _ => (pss_one (ps_set (i := 1) sc_law_signs.nd rfl (Or.inl rfl) (pe_callS G_negate (hr.mono (by decide)) rfl T.g_negate T.k_negate T.bd_negate (fun σ => passAt tk σ) (pa_cons (pv 0) pa_nil))))) (fun av oe cls dd pn hz hf => (pss_one (ps_set (i := 2) sc_law_signs.nd rfl (Or.inl rfl) (pe_lst (pa_cons (pe_callB (call_isEx hz hf) (by rfl) T.b_isinstance (by decide +kernel) (pa_cons (pv 3) (pa_cons (pe_glob (v := .ref a.C_Overflow) rfl T.g_Overflow rfl) pa_nil))) (pa_cons (pe_callB (call_isEx hz hf) (by rfl) T.b_isinstance (by decide +kernel) (pa_cons (pv 3) (pa_cons (pe_glob (v := .ref a.C_DivisionByZero) rfl T.g_DivisionByZero rfl) pa_nil))) (pa_cons (pe_callB (call_isEx hz hf) (by rfl) T.b_isinstance (by decide +kernel) (pa_cons (pv 3) (pa_cons (pe_bltn (v := .ty "ValueError") (by rfl) T.b_ValueError (by decide +kernel) rfl) pa_nil))) pa_nil))))))))
      (pss_cons (ps_if (pt_not (pt_val (pe_call G_law_holds (hr.mono (by decide)) rfl T.g__law_holds T.k__law_holds T.bd__law_holds .nil pass0 (pa_cons (pv 1) (pa_cons (pv 2) (pa_cons (pe_un un_neg (pv 0)) pa_nil)))))) (pss_one (ps_ret pe_bl)) pss_nil)
      (pss_cons (ps_set (i := 1) sc_law_signs.nd rfl (Or.inl rfl) pe_non)
      (pss_cons (ps_set (i := 2) sc_law_signs.nd rfl (Or.inl rfl) (pe_lst pa_nil))
      (pss_cut (ps_try_as (i := 3) rfl rfl sc_law_signs.nd rfl rfl ⟨rfl, by decide, Or.inl T.g_AdaError⟩ takes0 (fun W pn xe tk _ => (pss_one (ps_set (i := 1) sc_law_signs.nd rfl (Or.inl rfl) (pe_callS G_absolute (hr.mono (by decide)) rfl T.g_absolute T.k_absolute T.bd_absolute (fun σ => passAt tk σ) (pa_cons (pv 0) pa_nil))))) (fun av oe cls dd pn hz hf => (pss_one (ps_set (i := 2) sc_law_signs.nd rfl (Or.inl rfl) (pe_lst (pa_cons (pe_callB (call_isEx hz hf) (by rfl) T.b_isinstance (by decide +kernel) (pa_cons (pv 3) (pa_cons (pe_glob (v := .ref a.C_Overflow) rfl T.g_Overflow rfl) pa_nil))) (pa_cons (pe_callB (call_isEx hz hf) (by rfl) T.b_isinstance (by decide +kernel) (pa_cons (pv 3) (pa_cons (pe_glob (v := .ref a.C_DivisionByZero) rfl T.g_DivisionByZero rfl) pa_nil))) (pa_cons (pe_callB (call_isEx hz hf) (by rfl) T.b_isinstance (by decide +kernel) (pa_cons (pv 3) (pa_cons (pe_bltn (v := .ty "ValueError") (by rfl) T.b_ValueError (by decide +kernel) rfl) pa_nil))) pa_nil))))))))
      (pss_one (ps_ret (pe_call G_law_holds (hr.mono (by decide)) rfl T.g__law_holds T.k__law_holds T.bd__law_holds .nil pass0 (pa_cons (pv 1) (pa_cons (pv 2) (pa_cons (pe_callB call_abs (by rfl) T.b_abs (by decide +kernel) (pa_cons (pv 0) pa_nil)) pa_nil))))))))))))), ?_⟩
    refine ⟨by decide, fun p np => ?_⟩
    have s0 := sN (Same.refl H) np (o := .lst [])
    refine ⟨fun σ H1 => ∃ (x : V) (p1 : Addr), σ = [some (.int l), some x, some (.ref p1), none] ∧ hold3 K H1 x (.int (-l)) p1 ∧ Same H H1, ⟨_, rfl, l, rfl, fun hw => ?_, fun hw => ?_⟩, ?_⟩
    · exact ⟨_, p, rfl, .inr (.inr ⟨_, rfl, hw, rfl, upd_same⟩), s0⟩
    · refine ⟨true, T.e_Overflow_AdaError, fun _ av nav => ?_, fun z => nomatch z⟩
      refine ⟨_, rfl, _, rfl, rfl, T.ec_Overflow, _, _, _, rfl, fun u hu => hu, T.i_Overflow_Overflow, ?_⟩
      refine ⟨_, rfl, _, rfl, rfl, T.ec_Overflow, _, _, _, rfl, fun u hu => hu, T.i_Overflow_DivisionByZero, ?_⟩
      refine ⟨_, rfl, _, rfl, rfl, T.ec_Overflow, _, _, _, rfl, fun u hu => hu, T.i_Overflow_ValueError, (by show 3 ≤ sizeLine; decide), fun p2 n2 => ?_⟩
      exact ⟨_, p2, rfl, .inr (.inl ⟨_, rfl, hw, upd_same⟩), sN s0 n2⟩
    rintro σ H1 ⟨x, p1, rfl, h3, s1⟩
    refine ⟨_, rfl, _, rfl, _, rfl, _, rfl, _, _, p1, rfl, h3, fun H2 s2 => ⟨_, rfl, iteF ?_⟩⟩
    refine ⟨by decide, fun p3 n3 => ?_⟩
    have s3 := sN (s1.trans s2) n3 (o := .lst [])
    refine ⟨fun σ H1 => ∃ (x : V) (p1 : Addr), σ = [some (.int l), some x, some (.ref p1), none] ∧ hold3 K H1 x (.int (ab l)) p1 ∧ Same H H1, ⟨_, rfl, l, rfl, fun hw => ?_, fun hw => ?_⟩, ?_⟩
    · exact ⟨_, p3, rfl, .inr (.inr ⟨_, rfl, hw, rfl, upd_same⟩), s3⟩
    · refine ⟨true, T.e_Overflow_AdaError, fun _ av nav => ?_, fun z => nomatch z⟩
      refine ⟨_, rfl, _, rfl, rfl, T.ec_Overflow, _, _, _, rfl, fun u hu => hu, T.i_Overflow_Overflow, ?_⟩
      refine ⟨_, rfl, _, rfl, rfl, T.ec_Overflow, _, _, _, rfl, fun u hu => hu, T.i_Overflow_DivisionByZero, ?_⟩
      refine ⟨_, rfl, _, rfl, rfl, T.ec_Overflow, _, _, _, rfl, fun u hu => hu, T.i_Overflow_ValueError, (by show 3 ≤ sizeLine; decide), fun p2 n2 => ?_⟩
      exact ⟨_, p2, rfl, .inr (.inl ⟨_, rfl, hw, upd_same⟩), sN s3 n2⟩
    rintro σ H4 ⟨x, p1, rfl, h3, s4⟩
    exact ⟨_, rfl, _, rfl, _, rfl, _, rfl, _, _, p1, rfl, h3, fun H5 s5 => q _ (s4.trans s5)⟩
theorem sg_at : ∀ k : _root_.Fin 6, [V.str "=", V.str "/=", V.str "<", V.str "<=", V.str ">", V.str ">="][k.val]? = some (V.str (sgS k.val)) := by decide +kernel
theorem cmp_at (l r : Int) (k : Nat) (h : k < 6) : [V.bl (decide (V.int l = V.int r)), V.bl (!decide (V.int l = V.int r)), V.bl (decide (l < r)), V.bl (decide (l ≤ r)), V.bl (decide (r < l)), V.bl (decide (r ≤ l))][k]? = some (V.bl (cmpN k l r)) := by
  match k, h with
  | 0, _ => rfl
  | 1, _ => rfl
  | 2, _ => rfl
  | 3, _ => rfl
  | 4, _ => rfl
  | 5, _ => rfl
theorem ok_law_relations (T : Txt K mg a) : FnOk P w K mg base CX0 2 a.f_law_relations a.d_law_relations ["left", "right"] spLR := by
  have G_compare : FnOk P w K mg base CX0 1 _ _ _ _ := ok_compare T
  refine T.F__law_relations.ok sc_law_relations (fun vs H Q E h => ?_) (fun cdv A outer s H vs Q E hr h => ?_)
  · obtain ⟨_, _, rfl, _⟩ := h; rfl
  · obtain ⟨l, r, rfl, q⟩ := h
    refine ⟨_, (pss_cons (ps_set (i := 2) sc_law_relations.nd rfl (Or.inl rfl) (pe_lst (pa_cons (pe_cmpR op_eq (pv 0) (pv 1) (nomark _)) (pa_cons (pe_cmpR op_ne (pv 0) (pv 1) (nomark _)) (pa_cons (pe_cmpR op_lt (pv 0) (pv 1) (nomark _)) (pa_cons (pe_cmpR op_le (pv 0) (pv 1) (nomark _)) (pa_cons (pe_cmpR op_gt (pv 0) (pv 1) (nomark _)) (pa_cons (pe_cmpR op_ge (pv 0) (pv 1) (nomark _)) pa_nil))))))))
      (pss_cons (ps_set (i := 3) sc_law_relations.nd rfl (Or.inl rfl) (pe_lst (pa_cons pe_str (pa_cons pe_str (pa_cons pe_str (pa_cons pe_str (pa_cons pe_str (pa_cons pe_str pa_nil))))))))
      (pss_cons (ps_for PassesOwn.never rfl (pi_range1 rfl T.b_range (pa_cons pe_int pa_nil)) (pg_name (i := 4) sc_law_relations.nd rfl (Or.inl rfl)) (pss_cons (ps_set (i := 5) sc_law_relations.nd rfl (Or.inl rfl) (pe_call G_compare (hr.mono (by decide)) rfl T.g_compare T.k_compare T.bd_compare .nil pass0 (pa_cons (pe_ix ix_list (pv 3) (pv 4) (fun _ _ => rfl)) (pa_cons (pv 0) (pa_cons (pv 1) pa_nil)))))
      (pss_one (ps_if (PW.pt (pw_or (pt_not (pt_val (pe_callB call_isi (by rfl) T.b_isinstance (by decide +kernel) (pa_cons (pv 5) (pa_cons (pe_bltn (v := .ty "bool") (by rfl) T.b_bool (by decide +kernel) rfl) pa_nil))))) (pw_or1 (pt_cmpR op_ne (pv 5) (pe_ix ix_list (pv 2) (pv 4) (fun _ _ => rfl)) (nomark _))))) (pss_one (ps_ret pe_bl)) pss_nil))))
      (pss_one (ps_ret pe_bl))))), ?_⟩
    refine ⟨_, rfl, _, rfl, rfl, _, rfl, _, rfl, rfl, _, rfl, _, rfl, _, _, rfl, rfl, _, rfl, _, rfl, _, _, rfl, rfl, _, rfl, _, rfl, _, _, rfl, rfl, _, rfl, _, rfl, _, _, rfl, rfl, (by show 6 ≤ sizeLine; decide), fun p1 n1 => ?_⟩
    refine ⟨(by show 6 ≤ sizeLine; decide), fun p2 n2 => ?_⟩
    have s2 := sN (sN (Same.refl H) n1 (o := .lst [V.bl (decide (V.int l = V.int r)), V.bl (!decide (V.int l = V.int r)), V.bl (decide (l < r)), V.bl (decide (l ≤ r)), V.bl (decide (r < l)), V.bl (decide (r ≤ l))])) n2 (o := .lst [V.str "=", V.str "/=", V.str "<", V.str "<=", V.str ">", V.str ">="])
    refine ⟨6, rfl, by decide, by decide, for_range (lo := 0) (n := 6) (fun _ σ H' => ∃ x y, σ = [some (.int l), some (.int r), some (.ref p1), some (.ref p2), x, y] ∧ H' = upd (upd H p1 (.lst [V.bl (decide (V.int l = V.int r)), V.bl (!decide (V.int l = V.int r)), V.bl (decide (l < r)), V.bl (decide (l ≤ r)), V.bl (decide (r < l)), V.bl (decide (r ≤ l))])) p2 (.lst [V.str "=", V.str "/=", V.str "<", V.str "<=", V.str ">", V.str ">="])) ⟨none, none, rfl, rfl⟩ ?_ ?_⟩
    · rintro k σ H' hk ⟨x, y, rfl, rfl⟩
      have e0 : (0 : Int) + (k : Int) = (k : Int) := Int.zero_add _
      have hp1 : upd (upd H p1 (.lst [V.bl (decide (V.int l = V.int r)), V.bl (!decide (V.int l = V.int r)), V.bl (decide (l < r)), V.bl (decide (l ≤ r)), V.bl (decide (r < l)), V.bl (decide (r ≤ l))])) p2 (.lst [V.str "=", V.str "/=", V.str "<", V.str "<=", V.str ">", V.str ">="]) p1 = some (.lst [V.bl (decide (V.int l = V.int r)), V.bl (!decide (V.int l = V.int r)), V.bl (decide (l < r)), V.bl (decide (l ≤ r)), V.bl (decide (r < l)), V.bl (decide (r ≤ l))]) := by
        rw [upd_ne (ne_of_none upd_same n2), upd_same]
      rw [e0]
      refine ⟨_, rfl, _, rfl, _, _, _, _, rfl, rfl, SqL.of upd_same, atI_nat (sg_at ⟨k, hk⟩), _, rfl, _, rfl, k, l, r, hk, rfl, ?_⟩
      refine ⟨_, rfl, _, _, _, _, _, rfl, .ty _, .base (.bl _), kit_ty (by decide +kernel : kitB "bool" "bool" = some true), _, rfl, iteF ?_⟩
      refine ⟨_, rfl, _, rfl, _, rfl, _, _, _, _, rfl, rfl, SqL.of hp1, atI_nat (cmp_at l r k hk), rfl, _, rfl, ?_⟩
      rw [show (!decide (V.bl (cmpN k l r) = V.bl (cmpN k l r))) = false by simp]
      exact iteF ⟨_, _, rfl, rfl⟩
    · rintro σ H' ⟨x, y, rfl, rfl⟩
      exact q _ s2
theorem ok_law_fits (T : Txt K mg a) : FnOk P w K mg base CX0 2 a.f_law_fits a.d_law_fits ["number"] spLF := by
  have G_fits : FnOk P w K mg base CX0 1 _ _ _ _ := ok_fits T
  have G_law_is_word : FnOk P w K mg base CX0 1 _ _ _ _ := ok_law_is_word T
  refine T.F__law_fits.ok sc_law_fits (fun vs H Q E h => ?_) (fun cdv A outer s H vs Q E hr h => ?_)
  · obtain ⟨_, rfl, _⟩ := h; rfl
  · obtain ⟨n, rfl, q⟩ := h
    refine ⟨_, (pss_cons (ps_set (i := 1) sc_law_fits.nd rfl (Or.inl rfl) (pe_call G_fits (hr.mono (by decide)) rfl T.g_fits T.k_fits T.bd_fits .nil pass0 (pa_cons (pv 0) pa_nil)))
      (pss_one (ps_ret (pe_and (pe_callB call_isi (by rfl) T.b_isinstance (by decide +kernel) (pa_cons (pv 1) (pa_cons (pe_bltn (v := .ty "bool") (by rfl) T.b_bool (by decide +kernel) rfl) pa_nil))) (pe_one (pe_cmpR op_eq (pv 1) (pe_call G_law_is_word (hr.mono (by decide)) rfl T.g__law_is_word T.k__law_is_word T.bd__law_is_word .nil pass0 (pa_cons (pv 0) pa_nil)) (nomark _))))))), ?_⟩
    refine ⟨_, rfl, n, rfl, ?_⟩
    refine ⟨_, rfl, _, _, _, _, _, rfl, .ty _, .base (.bl _), kit_ty (by decide +kernel : kitB "bool" "bool" = some true), _, rfl, iteT ?_⟩
    refine ⟨_, rfl, _, rfl, n, rfl, rfl, ?_⟩
    rw [show decide (V.bl (isW n) = V.bl (isW n)) = true by simp]
    exact q
theorem op_at : ∀ k : _root_.Fin 6, [V.str "+", V.str "-", V.str "*", V.str "/", V.str "mod", V.str "rem"][k.val]? = some (V.str (opS k.val)) := by decide +kernel
theorem ok_law (T : Txt K mg a) : FnOk P w K mg base CX0 6 a.f_law a.d_law ["script"] (spLaw K) := by
  have G_law_start : FnOk P w K mg base CX0 1 _ _ _ _ := ok_law_start T
  have G_law_take : FnOk P w K mg base CX0 1 _ _ _ _ := ok_law_take T
  have G_law_word : FnOk P w K mg base CX0 2 _ _ _ _ := ok_law_word T
  have G_law_arithmetic : FnOk P w K mg base CX0 5 _ _ _ _ := ok_law_arithmetic T
  have G_law_signs : FnOk P w K mg base CX0 5 _ _ _ _ := ok_law_signs T
  have G_law_relations : FnOk P w K mg base CX0 2 _ _ _ _ := ok_law_relations T
  have G_law_fits : FnOk P w K mg base CX0 2 _ _ _ _ := ok_law_fits T
  refine T.F_law.ok sc_law (fun vs H Q E h => ?_) (fun cdv A outer s H vs Q E hr h => ?_)
  · obtain ⟨_, _, rfl, _⟩ := h; rfl
  · obtain ⟨sa, ns, rfl, hS, hlen, q⟩ := h
    refine ⟨_, (pss_cons (ps_if (PW.pt (pw_or (pt_cmpR op_ne (pe_glob (v := .int (-2147483648)) rfl T.g_MIN ⟨_, rfl⟩) (pe_un un_neg pe_int) (nomark _)) (pw_or1 (pt_cmpR op_ne (pe_glob (v := .int (2147483647)) rfl T.g_MAX ⟨_, rfl⟩) pe_int (nomark _))))) (pss_one (ps_ret pe_bl)) pss_nil)
      (pss_cons (ps_set (i := 1) sc_law.nd rfl (Or.inl rfl) (pe_call G_law_start (hr.mono (by decide)) rfl T.g__law_start T.k__law_start T.bd__law_start .nil pass0 (pa_cons (pv 0) pa_nil)))
      (pss_cons (ps_set (i := 2) sc_law.nd rfl (Or.inl rfl) (pe_ix ix_list (pe_lst (pa_cons pe_str (pa_cons pe_str (pa_cons pe_str (pa_cons pe_str (pa_cons pe_str (pa_cons pe_str pa_nil))))))) (pe_call G_law_take (hr.mono (by decide)) rfl T.g__law_take T.k__law_take T.bd__law_take .nil pass0 (pa_cons (pv 1) (pa_cons pe_int pa_nil))) (fun _ _ => rfl)))
      (pss_cons (ps_set (i := 3) sc_law.nd rfl (Or.inl rfl) (pe_call G_law_word (hr.mono (by decide)) rfl T.g__law_word T.k__law_word T.bd__law_word .nil pass0 (pa_cons (pv 1) pa_nil)))
      (pss_cons (ps_set (i := 4) sc_law.nd rfl (Or.inl rfl) (pe_call G_law_word (hr.mono (by decide)) rfl T.g__law_word T.k__law_word T.bd__law_word .nil pass0 (pa_cons (pv 1) pa_nil)))
      (pss_cons (ps_for PassesOwn.never rfl (pi_list (pe_lst (pa_cons (pe_lst (pa_cons (pv 3) (pa_cons (pv 4) pa_nil))) (pa_cons (pe_lst (pa_cons (pv 4) (pa_cons (pv 3) pa_nil))) (pa_cons (pe_lst (pa_cons (pv 3) (pa_cons pe_int pa_nil))) (pa_cons (pe_lst (pa_cons (pv 3) (pa_cons (pe_un un_neg pe_int) pa_nil))) pa_nil)))))) (pg_name (i := 5) sc_law.nd rfl (Or.inl rfl)) (pss_one (ps_if (pt_not (pt_val (pe_call G_law_arithmetic (hr.mono (by decide)) rfl T.g__law_arithmetic T.k__law_arithmetic T.bd__law_arithmetic .nil pass0 (pa_cons (pv 2) (pa_cons (pe_ix ix_list (pv 5) pe_int (fun _ _ => rfl)) (pa_cons (pe_ix ix_list (pv 5) pe_int (fun _ _ => rfl)) pa_nil)))))) (pss_one (ps_ret pe_bl)) pss_nil)))
      (pss_cons (ps_if (PW.pt (pw_or (pt_not (pt_val (pe_call G_law_signs (hr.mono (by decide)) rfl T.g__law_signs T.k__law_signs T.bd__law_signs .nil pass0 (pa_cons (pv 3) pa_nil)))) (pw_or1 (pt_not (pt_val (pe_call G_law_signs (hr.mono (by decide)) rfl T.g__law_signs T.k__law_signs T.bd__law_signs .nil pass0 (pa_cons (pv 4) pa_nil))))))) (pss_one (ps_ret pe_bl)) pss_nil)
      (pss_cons (ps_if (PW.pt (pw_or (pt_not (pt_val (pe_call G_law_relations (hr.mono (by decide)) rfl T.g__law_relations T.k__law_relations T.bd__law_relations .nil pass0 (pa_cons (pv 3) (pa_cons (pv 4) pa_nil))))) (pw_or (pt_not (pt_val (pe_call G_law_relations (hr.mono (by decide)) rfl T.g__law_relations T.k__law_relations T.bd__law_relations .nil pass0 (pa_cons (pv 4) (pa_cons (pv 3) pa_nil))))) (pw_or1 (pt_not (pt_val (pe_call G_law_relations (hr.mono (by decide)) rfl T.g__law_relations T.k__law_relations T.bd__law_relations .nil pass0 (pa_cons (pv 3) (pa_cons (pv 3) pa_nil))))))))) (pss_one (ps_ret pe_bl)) pss_nil)
      (pss_cons (ps_set (i := 6) sc_law.nd rfl (Or.inl rfl) (pe_lst (pa_cons (pv 3) (pa_cons (pe_op op_add (pv 3) (pv 4)) (pa_cons (pe_op op_mul (pv 3) (pv 4)) (pa_cons (pe_op op_sub (pv 3) pe_int) (pa_cons (pe_op op_add pe_int (pv 4)) pa_nil)))))))
      (pss_cut (ps_if (pt_cmpR op_gt (pe_callB call_len_seq (by rfl) T.b_len (by decide +kernel) (pa_cons (pv 0) pa_nil)) pe_int (nomark _)) (pss_one (ps_expr (pe_bm PySem.F.plainAttrs_list PySem.F.slot_list_append PySem.F.type_list_append mt_append (pv 6) (pa_cons (pe_ix ix_list (pv 0) pe_int (fun _ _ => rfl)) pa_nil)))) pss_nil)
      (pss_cons (ps_for PassesOwn.never rfl (pi_list (pv 6)) (pg_name (i := 7) sc_law.nd rfl (Or.inl rfl)) (pss_one (ps_if (pt_not (pt_val (pe_call G_law_fits (hr.mono (by decide)) rfl T.g__law_fits T.k__law_fits T.bd__law_fits .nil pass0 (pa_cons (pv 7) pa_nil)))) (pss_one (ps_ret pe_bl)) pss_nil)))
      (pss_one (ps_ret pe_bl))))))))))))), ?_⟩
    refine ⟨_, rfl, rfl, _, rfl, iteF ⟨rfl, _, rfl, iteF ?_⟩⟩
    refine ⟨_, rfl, sa, ns, rfl, hS, hlen, fun st g H1 nst ng S1 s1 => ?_⟩
    -- op
    refine ⟨(by show 6 ≤ sizeLine; decide), fun p1 n1 => ⟨_, rfl, st, g, 6, rfl, st_new S1 n1, by decide, by decide, fun v H2 v0 v1 S2 F2 => ?_⟩⟩
    obtain ⟨k, rfl⟩ : ∃ k : Nat, v = (k : Int) := ⟨v.toNat, by omega⟩
    have hk : k < 6 := by omega
    obtain ⟨_, _, _, _, g1, g2⟩ := id S1
    have hp := F2 p1 _ upd_same (ne_of_none g1 n1).symm (ne_of_none g2 n1).symm
    have s2 : Same H H2 := same_fr2 (sN s1 n1) F2 nst ng
    refine ⟨_, _, _, _, rfl, rfl, SqL.of hp, atI_nat (op_at ⟨k, hk⟩), ?_⟩
    -- left, right
    refine ⟨_, rfl, st, g, rfl, S2, fun l H3 hl S3 F3 => ?_⟩
    refine ⟨_, rfl, st, g, rfl, S3, fun r H4 hr' S4 F4 => ?_⟩
    have s4 : Same H H4 := same_fr2 (same_fr2 s2 F3 nst ng) F4 nst ng
    -- the pairs
    refine ⟨_, rfl, _, rfl, (by show 2 ≤ sizeLine; decide), fun a1 m1 => ⟨_, rfl, _, rfl, (by show 2 ≤ sizeLine; decide), fun a2 m2 => ⟨_, rfl, (by show 2 ≤ sizeLine; decide), fun a3 m3 => ⟨_, rfl, _, rfl, (by show 2 ≤ sizeLine; decide), fun a4 m4 => ⟨(by show 4 ≤ sizeLine; decide), fun a5 m5 => ?_⟩⟩⟩⟩⟩
    have t1 := sN s4 m1 (o := .lst [V.int l, V.int r])
    have t2 := sN t1 m2 (o := .lst [V.int r, V.int l])
    have t3 := sN t2 m3 (o := .lst [V.int l, V.int 0])
    have t4 := sN t3 m4 (o := .lst [V.int l, V.int (-1)])
    have t5 := sN t4 m5 (o := .lst [V.ref a1, V.ref a2, V.ref a3, V.ref a4])
    have b1 : Same (upd H4 a1 (.lst [V.int l, V.int r])) _ := sN (sN (sN (sN (Same.refl _) m2 (o := .lst [V.int r, V.int l])) m3 (o := .lst [V.int l, V.int 0])) m4 (o := .lst [V.int l, V.int (-1)])) m5 (o := .lst [V.ref a1, V.ref a2, V.ref a3, V.ref a4])
    have b2 : Same (upd (upd H4 a1 (.lst [V.int l, V.int r])) a2 (.lst [V.int r, V.int l])) _ := sN (sN (sN (Same.refl _) m3 (o := .lst [V.int l, V.int 0])) m4 (o := .lst [V.int l, V.int (-1)])) m5 (o := .lst [V.ref a1, V.ref a2, V.ref a3, V.ref a4])
    have b3 : Same (upd (upd (upd H4 a1 (.lst [V.int l, V.int r])) a2 (.lst [V.int r, V.int l])) a3 (.lst [V.int l, V.int 0])) _ := sN (sN (Same.refl _) m4 (o := .lst [V.int l, V.int (-1)])) m5 (o := .lst [V.ref a1, V.ref a2, V.ref a3, V.ref a4])
    have b4 : Same (upd (upd (upd (upd H4 a1 (.lst [V.int l, V.int r])) a2 (.lst [V.int r, V.int l])) a3 (.lst [V.int l, V.int 0])) a4 (.lst [V.int l, V.int (-1)])) _ := sN (Same.refl _) m5 (o := .lst [V.ref a1, V.ref a2, V.ref a3, V.ref a4])
    have c1 := b1 _ _ upd_same
    have c2 := b2 _ _ upd_same
    have c3 := b3 _ _ upd_same
    have c4 := b4 _ _ upd_same
    have c5 : upd (upd (upd (upd (upd H4 a1 (.lst [V.int l, V.int r])) a2 (.lst [V.int r, V.int l])) a3 (.lst [V.int l, V.int 0])) a4 (.lst [V.int l, V.int (-1)])) a5 (.lst [V.ref a1, V.ref a2, V.ref a3, V.ref a4]) a5 = some (.lst [V.ref a1, V.ref a2, V.ref a3, V.ref a4]) := upd_same
    clear b1 b2 b3 b4 t1 t2 t3 t4
    generalize upd (upd (upd (upd (upd H4 a1 (.lst [V.int l, V.int r])) a2 (.lst [V.int r, V.int l])) a3 (.lst [V.int l, V.int 0])) a4 (.lst [V.int l, V.int (-1)])) a5 (.lst [V.ref a1, V.ref a2, V.ref a3, V.ref a4]) = H5 at *
    refine ⟨_, rfl, ⟨_, SqL.of c5⟩, for_list (K := K) (a := a5) (xs := [V.ref a1, V.ref a2, V.ref a3, V.ref a4])
      (fun _ σ H' => ∃ x, σ = [some (.ref sa), some (.ref st), some (.str (opS k)), some (.int l), some (.int r), x, none, none] ∧ Same H5 H') ⟨none, rfl, Same.refl _⟩ (fun _ _ _ _ ⟨_, _, ss⟩ => ss.seq (SqL.of c5)) ?_ ?_⟩
    · rintro i x σ H' hi ⟨y, rfl, ss⟩
      obtain ⟨p, u, v, hxp, hcp, hwu, hwv⟩ : ∃ (p : Addr) (u v : Int), x = V.ref p ∧ H5 p = some (.lst [V.int u, V.int v]) ∧ wd u ∧ wd v := by
        match i, hi with
        | 0, hi => exact ⟨a1, l, r, (Option.some.inj hi).symm, c1, hl, hr'⟩
        | 1, hi => exact ⟨a2, r, l, (Option.some.inj hi).symm, c2, hr', hl⟩
        | 2, hi => exact ⟨a3, l, 0, (Option.some.inj hi).symm, c3, hl, by decide, by decide⟩
        | 3, hi => exact ⟨a4, l, -1, (Option.some.inj hi).symm, c4, hl, by decide, by decide⟩
        | i + 4, hi => simp at hi
      subst hxp
      have hcp' := ss _ _ hcp
      refine ⟨_, rfl, _, rfl, _, _, _, _, rfl, rfl, SqL.of hcp', rfl, _, rfl, _, _, _, _, rfl, rfl, SqL.of hcp', rfl, k, u, v, hk, rfl, hwu, hwv, fun H'' s'' => ⟨_, rfl, iteF ⟨_, rfl, ss.trans s''⟩⟩⟩
    rintro σ H6 ⟨y, rfl, ss6⟩
    have s6 : Same H H6 := t5.trans ss6
    -- signs
    refine ⟨_, rfl, l, rfl, hl, fun H7 s7 => ⟨_, rfl, iteF ⟨_, rfl, r, rfl, hr', fun H8 s8 => ⟨_, rfl, iteF ?_⟩⟩⟩⟩
    -- relations
    refine ⟨_, rfl, _, rfl, l, r, rfl, fun H9 s9 => ⟨_, rfl, iteF ⟨_, rfl, _, rfl, r, l, rfl, fun H10 s10 => ⟨_, rfl, iteF ⟨_, rfl, _, rfl, l, l, rfl, fun H11 s11 => ⟨_, rfl, iteF ?_⟩⟩⟩⟩⟩⟩
    have s11' : Same H H11 := ((((s6.trans s7).trans s8).trans s9).trans s10).trans s11
    -- numbers
    refine ⟨_, rfl, _, rfl, _, rfl, _, _, rfl, rfl, _, rfl, _, rfl, _, _, rfl, rfl, cmull hl, _, rfl, _, _, rfl, rfl, _, rfl, _, _, rfl, rfl, (by show 5 ≤ sizeLine; decide), fun p6 n6 => ?_⟩
    have s12 := sN s11' n6 (o := .lst [V.int l, V.int (l + r), V.int (l * r), V.int (l - 2147483648), V.int (2147483647 + r)])
    refine ⟨fun σ H' => σ = [some (.ref sa), some (.ref st), some (.str (opS k)), some (.int l), some (.int r), y, some (.ref p6), none] ∧ ∃ is : List Int, H' p6 = some (.lst (is.map V.int)), ?_, ?_⟩
    · refine ⟨_, rfl, _, _, rfl, .inl (s12.seq hS), _, _, rfl, rfl, _, rfl, ite3 (fun e => ?_) (fun e => ?_)⟩
      · cases ns with
        | nil => simp at e
        | cons n r' =>
          refine ⟨_, rfl, .inl ⟨rfl, _, SqL.of upd_same⟩, _, rfl, _, _, _, _, rfl, rfl, s12.seq hS, at0, p6, _, _, rfl, rfl, upd_same, by show 5 < sizeLine; decide, ?_⟩
          exact ⟨rfl, [l, l + r, l * r, l - 2147483648, 2147483647 + r, n], upd_same⟩
      · exact ⟨rfl, [l, l + r, l * r, l - 2147483648, 2147483647 + r], upd_same⟩
    rintro σ H13 ⟨rfl, is, h6⟩
    refine ⟨_, rfl, _, rfl, ⟨_, SqL.of h6⟩, for_list (K := K) (a := p6) (xs := is.map V.int)
      (fun _ σ H' => H' = H13 ∧ ∃ x, σ = [some (.ref sa), some (.ref st), some (.str (opS k)), some (.int l), some (.int r), y, some (.ref p6), x]) ⟨rfl, none, rfl⟩ (fun _ _ _ _ ⟨e, _⟩ => by rw [e]; exact SqL.of h6) ?_ ?_⟩
    · rintro i x σ H' hi ⟨rfl, x0, rfl⟩
      obtain ⟨c, rfl⟩ : ∃ c, x = V.int c := by
        rw [List.getElem?_map] at hi
        cases e : is[i]? with
        | none => rw [e] at hi; cases hi
        | some c => rw [e] at hi; exact ⟨c, (Option.some.inj hi).symm⟩
      exact ⟨_, rfl, c, rfl, _, rfl, iteF ⟨rfl, _, rfl⟩⟩
    · rintro σ H' ⟨rfl, x0, rfl⟩
      exact q _
end
theorem all_mk {l : PySem.W.OpenLaw} {w : World} {K : PySem.W.Frag} {h : Heap} {mg : Str → Option Value} {fa : Addr} (X : K.In h) (G : h.Ns mainGlobals mg) (hfa : mg "law" = some (.ref fa))
    {C_AdaError : Addr} (aC_AdaError : PySem.W.nsIn K mainGlobals "AdaError" = some (some (.ref C_AdaError)))
    (x_AdaError : PySem.W.excIn K C_AdaError [.type "ValueError", .type "Exception", .type "BaseException", .type "object"] "ValueError.__new__" = true) (kC_AdaError : PySem.W.keepIn K (.ref C_AdaError) = true) (s1_AdaError : PySem.W.subIn K (.ref C_AdaError) (.type "BaseException") = some true) (ty_AdaError : PySem.W.typeIn K (.ref C_AdaError) = some (.type "type")) (ic_AdaError : PySem.W.isClsIn K C_AdaError = true)
    {C_Overflow : Addr} (aC_Overflow : PySem.W.nsIn K mainGlobals "Overflow" = some (some (.ref C_Overflow)))
    (x_Overflow : PySem.W.excIn K C_Overflow [.type "ValueError", .type "Exception", .type "BaseException", .type "object"] "ValueError.__new__" = true) (kC_Overflow : PySem.W.keepIn K (.ref C_Overflow) = true) (s1_Overflow : PySem.W.subIn K (.ref C_Overflow) (.type "BaseException") = some true) (ty_Overflow : PySem.W.typeIn K (.ref C_Overflow) = some (.type "type")) (ic_Overflow : PySem.W.isClsIn K C_Overflow = true)
    (h1_Overflow : PySem.W.findIn K (.ref C_Overflow) "__getattribute__" = some (some (.builtin "BaseException.__getattribute__"))) (h2_Overflow : PySem.W.findIn K (.ref C_Overflow) "__getattr__" = some none) (h3_Overflow : PySem.W.hasDictIn K C_Overflow = true) (h4_Overflow : PySem.W.findIn K (.ref C_Overflow) "__class__" = some (some (.builtin "object.__class__"))) (h5_Overflow : PySem.W.specialIn K (.builtin "object.__class__") "__get__" = some (some (.builtin "getset_descriptor.__get__"))) (h6_Overflow : PySem.W.takesIn K (.builtin "object.__class__") = some true) (h7_Overflow : PySem.W.mroIn K C_Overflow (.type "object") = some true)
    {C_DivisionByZero : Addr} (aC_DivisionByZero : PySem.W.nsIn K mainGlobals "DivisionByZero" = some (some (.ref C_DivisionByZero)))
    (x_DivisionByZero : PySem.W.excIn K C_DivisionByZero [.type "ValueError", .type "Exception", .type "BaseException", .type "object"] "ValueError.__new__" = true) (kC_DivisionByZero : PySem.W.keepIn K (.ref C_DivisionByZero) = true) (s1_DivisionByZero : PySem.W.subIn K (.ref C_DivisionByZero) (.type "BaseException") = some true) (ty_DivisionByZero : PySem.W.typeIn K (.ref C_DivisionByZero) = some (.type "type")) (ic_DivisionByZero : PySem.W.isClsIn K C_DivisionByZero = true)
    (h1_DivisionByZero : PySem.W.findIn K (.ref C_DivisionByZero) "__getattribute__" = some (some (.builtin "BaseException.__getattribute__"))) (h2_DivisionByZero : PySem.W.findIn K (.ref C_DivisionByZero) "__getattr__" = some none) (h3_DivisionByZero : PySem.W.hasDictIn K C_DivisionByZero = true) (h4_DivisionByZero : PySem.W.findIn K (.ref C_DivisionByZero) "__class__" = some (some (.builtin "object.__class__"))) (h5_DivisionByZero : PySem.W.specialIn K (.builtin "object.__class__") "__get__" = some (some (.builtin "getset_descriptor.__get__"))) (h6_DivisionByZero : PySem.W.takesIn K (.builtin "object.__class__") = some true) (h7_DivisionByZero : PySem.W.mroIn K C_DivisionByZero (.type "object") = some true)
    (e_Overflow_AdaError : PySem.W.subIn K (.ref C_Overflow) (.ref C_AdaError) = some true)
    (e_DivisionByZero_AdaError : PySem.W.subIn K (.ref C_DivisionByZero) (.ref C_AdaError) = some true)
    (zz_DivisionByZero : PySem.W.subIn K (.ref C_DivisionByZero) (.ref C_DivisionByZero) = some true)
    (zz_Overflow : PySem.W.subIn K (.ref C_Overflow) (.ref C_Overflow) = some true)
    (i_Overflow_Overflow : PySem.W.subIn K (.ref C_Overflow) (.ref C_Overflow) = some true)
    (i_Overflow_DivisionByZero : PySem.W.subIn K (.ref C_Overflow) (.ref C_DivisionByZero) = some false)
    (i_Overflow_ValueError : PySem.W.subIn K (.ref C_Overflow) (.type "ValueError") = some true)
    (i_DivisionByZero_Overflow : PySem.W.subIn K (.ref C_DivisionByZero) (.ref C_Overflow) = some false)
    (i_DivisionByZero_DivisionByZero : PySem.W.subIn K (.ref C_DivisionByZero) (.ref C_DivisionByZero) = some true)
    (i_DivisionByZero_ValueError : PySem.W.subIn K (.ref C_DivisionByZero) (.type "ValueError") = some true)
    {f_fits : Addr} {oc_fits : Value} {od_fits an_fits : Option Addr} {sl_fits : Array (Option Value)} {kV_fits dc_fits pm_fits cd_fits ct_fits : Value}
    (a_fits : PySem.W.nsIn K mainGlobals "fits" = some (some (.ref f_fits)))
    (l_fits : K.lookup f_fits = some ⟨oc_fits, od_fits, .func (PySem.W.fnOf "fits" "fits" (defArgs s_fits) (defBody s_fits) (defScope s_fits) .none kV_fits dc_fits pm_fits an_fits cd_fits ct_fits), sl_fits⟩)
    (c_fits : PySem.W.codeIn K cd_fits "fits" = true)
    (k_fits : PySem.W.keepIn K (.ref f_fits) = true)
    {f_arithmetic : Addr} {oc_arithmetic : Value} {od_arithmetic an_arithmetic : Option Addr} {sl_arithmetic : Array (Option Value)} {kV_arithmetic dc_arithmetic pm_arithmetic cd_arithmetic ct_arithmetic : Value}
    (a_arithmetic : PySem.W.nsIn K mainGlobals "arithmetic" = some (some (.ref f_arithmetic)))
    (l_arithmetic : K.lookup f_arithmetic = some ⟨oc_arithmetic, od_arithmetic, .func (PySem.W.fnOf "arithmetic" "arithmetic" (defArgs s_arithmetic) (defBody s_arithmetic) (defScope s_arithmetic) .none kV_arithmetic dc_arithmetic pm_arithmetic an_arithmetic cd_arithmetic ct_arithmetic), sl_arithmetic⟩)
    (c_arithmetic : PySem.W.codeIn K cd_arithmetic "arithmetic" = true)
    (k_arithmetic : PySem.W.keepIn K (.ref f_arithmetic) = true)
    {f_negate : Addr} {oc_negate : Value} {od_negate an_negate : Option Addr} {sl_negate : Array (Option Value)} {kV_negate dc_negate pm_negate cd_negate ct_negate : Value}
    (a_negate : PySem.W.nsIn K mainGlobals "negate" = some (some (.ref f_negate)))
    (l_negate : K.lookup f_negate = some ⟨oc_negate, od_negate, .func (PySem.W.fnOf "negate" "negate" (defArgs s_negate) (defBody s_negate) (defScope s_negate) .none kV_negate dc_negate pm_negate an_negate cd_negate ct_negate), sl_negate⟩)
    (c_negate : PySem.W.codeIn K cd_negate "negate" = true)
    (k_negate : PySem.W.keepIn K (.ref f_negate) = true)
    {f_absolute : Addr} {oc_absolute : Value} {od_absolute an_absolute : Option Addr} {sl_absolute : Array (Option Value)} {kV_absolute dc_absolute pm_absolute cd_absolute ct_absolute : Value}
    (a_absolute : PySem.W.nsIn K mainGlobals "absolute" = some (some (.ref f_absolute)))
    (l_absolute : K.lookup f_absolute = some ⟨oc_absolute, od_absolute, .func (PySem.W.fnOf "absolute" "absolute" (defArgs s_absolute) (defBody s_absolute) (defScope s_absolute) .none kV_absolute dc_absolute pm_absolute an_absolute cd_absolute ct_absolute), sl_absolute⟩)
    (c_absolute : PySem.W.codeIn K cd_absolute "absolute" = true)
    (k_absolute : PySem.W.keepIn K (.ref f_absolute) = true)
    {f_compare : Addr} {oc_compare : Value} {od_compare an_compare : Option Addr} {sl_compare : Array (Option Value)} {kV_compare dc_compare pm_compare cd_compare ct_compare : Value}
    (a_compare : PySem.W.nsIn K mainGlobals "compare" = some (some (.ref f_compare)))
    (l_compare : K.lookup f_compare = some ⟨oc_compare, od_compare, .func (PySem.W.fnOf "compare" "compare" (defArgs s_compare) (defBody s_compare) (defScope s_compare) .none kV_compare dc_compare pm_compare an_compare cd_compare ct_compare), sl_compare⟩)
    (c_compare : PySem.W.codeIn K cd_compare "compare" = true)
    (k_compare : PySem.W.keepIn K (.ref f_compare) = true)
    {f_word : Addr} {oc_word : Value} {od_word an_word : Option Addr} {sl_word : Array (Option Value)} {kV_word dc_word pm_word cd_word ct_word : Value}
    (a_word : PySem.W.nsIn K mainGlobals "_word" = some (some (.ref f_word)))
    (l_word : K.lookup f_word = some ⟨oc_word, od_word, .func (PySem.W.fnOf "_word" "_word" (defArgs s_word) (defBody s_word) (defScope s_word) .none kV_word dc_word pm_word an_word cd_word ct_word), sl_word⟩)
    (c_word : PySem.W.codeIn K cd_word "_word" = true)
    (k_word : PySem.W.keepIn K (.ref f_word) = true)
    {f_result : Addr} {oc_result : Value} {od_result an_result : Option Addr} {sl_result : Array (Option Value)} {kV_result dc_result pm_result cd_result ct_result : Value}
    (a_result : PySem.W.nsIn K mainGlobals "_result" = some (some (.ref f_result)))
    (l_result : K.lookup f_result = some ⟨oc_result, od_result, .func (PySem.W.fnOf "_result" "_result" (defArgs s_result) (defBody s_result) (defScope s_result) .none kV_result dc_result pm_result an_result cd_result ct_result), sl_result⟩)
    (c_result : PySem.W.codeIn K cd_result "_result" = true)
    (k_result : PySem.W.keepIn K (.ref f_result) = true)
    {f_quotient : Addr} {oc_quotient : Value} {od_quotient an_quotient : Option Addr} {sl_quotient : Array (Option Value)} {kV_quotient dc_quotient pm_quotient cd_quotient ct_quotient : Value}
    (a_quotient : PySem.W.nsIn K mainGlobals "_quotient" = some (some (.ref f_quotient)))
    (l_quotient : K.lookup f_quotient = some ⟨oc_quotient, od_quotient, .func (PySem.W.fnOf "_quotient" "_quotient" (defArgs s_quotient) (defBody s_quotient) (defScope s_quotient) .none kV_quotient dc_quotient pm_quotient an_quotient cd_quotient ct_quotient), sl_quotient⟩)
    (c_quotient : PySem.W.codeIn K cd_quotient "_quotient" = true)
    (k_quotient : PySem.W.keepIn K (.ref f_quotient) = true)
    {f_law_start : Addr} {oc_law_start : Value} {od_law_start an_law_start : Option Addr} {sl_law_start : Array (Option Value)} {kV_law_start dc_law_start pm_law_start cd_law_start ct_law_start : Value}
    (a_law_start : PySem.W.nsIn K mainGlobals "_law_start" = some (some (.ref f_law_start)))
    (l_law_start : K.lookup f_law_start = some ⟨oc_law_start, od_law_start, .func (PySem.W.fnOf "_law_start" "_law_start" (defArgs s_law_start) (defBody s_law_start) (defScope s_law_start) .none kV_law_start dc_law_start pm_law_start an_law_start cd_law_start ct_law_start), sl_law_start⟩)
    (c_law_start : PySem.W.codeIn K cd_law_start "_law_start" = true)
    (k_law_start : PySem.W.keepIn K (.ref f_law_start) = true)
    {f_law_take : Addr} {oc_law_take : Value} {od_law_take an_law_take : Option Addr} {sl_law_take : Array (Option Value)} {kV_law_take dc_law_take pm_law_take cd_law_take ct_law_take : Value}
    (a_law_take : PySem.W.nsIn K mainGlobals "_law_take" = some (some (.ref f_law_take)))
    (l_law_take : K.lookup f_law_take = some ⟨oc_law_take, od_law_take, .func (PySem.W.fnOf "_law_take" "_law_take" (defArgs s_law_take) (defBody s_law_take) (defScope s_law_take) .none kV_law_take dc_law_take pm_law_take an_law_take cd_law_take ct_law_take), sl_law_take⟩)
    (c_law_take : PySem.W.codeIn K cd_law_take "_law_take" = true)
    (k_law_take : PySem.W.keepIn K (.ref f_law_take) = true)
    {f_law_word : Addr} {oc_law_word : Value} {od_law_word an_law_word : Option Addr} {sl_law_word : Array (Option Value)} {kV_law_word dc_law_word pm_law_word cd_law_word ct_law_word : Value}
    (a_law_word : PySem.W.nsIn K mainGlobals "_law_word" = some (some (.ref f_law_word)))
    (l_law_word : K.lookup f_law_word = some ⟨oc_law_word, od_law_word, .func (PySem.W.fnOf "_law_word" "_law_word" (defArgs s_law_word) (defBody s_law_word) (defScope s_law_word) .none kV_law_word dc_law_word pm_law_word an_law_word cd_law_word ct_law_word), sl_law_word⟩)
    (c_law_word : PySem.W.codeIn K cd_law_word "_law_word" = true)
    (k_law_word : PySem.W.keepIn K (.ref f_law_word) = true)
    {f_law_exact : Addr} {oc_law_exact : Value} {od_law_exact an_law_exact : Option Addr} {sl_law_exact : Array (Option Value)} {kV_law_exact dc_law_exact pm_law_exact cd_law_exact ct_law_exact : Value}
    (a_law_exact : PySem.W.nsIn K mainGlobals "_law_exact" = some (some (.ref f_law_exact)))
    (l_law_exact : K.lookup f_law_exact = some ⟨oc_law_exact, od_law_exact, .func (PySem.W.fnOf "_law_exact" "_law_exact" (defArgs s_law_exact) (defBody s_law_exact) (defScope s_law_exact) .none kV_law_exact dc_law_exact pm_law_exact an_law_exact cd_law_exact ct_law_exact), sl_law_exact⟩)
    (c_law_exact : PySem.W.codeIn K cd_law_exact "_law_exact" = true)
    (k_law_exact : PySem.W.keepIn K (.ref f_law_exact) = true)
    {f_law_is_word : Addr} {oc_law_is_word : Value} {od_law_is_word an_law_is_word : Option Addr} {sl_law_is_word : Array (Option Value)} {kV_law_is_word dc_law_is_word pm_law_is_word cd_law_is_word ct_law_is_word : Value}
    (a_law_is_word : PySem.W.nsIn K mainGlobals "_law_is_word" = some (some (.ref f_law_is_word)))
    (l_law_is_word : K.lookup f_law_is_word = some ⟨oc_law_is_word, od_law_is_word, .func (PySem.W.fnOf "_law_is_word" "_law_is_word" (defArgs s_law_is_word) (defBody s_law_is_word) (defScope s_law_is_word) .none kV_law_is_word dc_law_is_word pm_law_is_word an_law_is_word cd_law_is_word ct_law_is_word), sl_law_is_word⟩)
    (c_law_is_word : PySem.W.codeIn K cd_law_is_word "_law_is_word" = true)
    (k_law_is_word : PySem.W.keepIn K (.ref f_law_is_word) = true)
    {f_law_holds : Addr} {oc_law_holds : Value} {od_law_holds an_law_holds : Option Addr} {sl_law_holds : Array (Option Value)} {kV_law_holds dc_law_holds pm_law_holds cd_law_holds ct_law_holds : Value}
    (a_law_holds : PySem.W.nsIn K mainGlobals "_law_holds" = some (some (.ref f_law_holds)))
    (l_law_holds : K.lookup f_law_holds = some ⟨oc_law_holds, od_law_holds, .func (PySem.W.fnOf "_law_holds" "_law_holds" (defArgs s_law_holds) (defBody s_law_holds) (defScope s_law_holds) .none kV_law_holds dc_law_holds pm_law_holds an_law_holds cd_law_holds ct_law_holds), sl_law_holds⟩)
    (c_law_holds : PySem.W.codeIn K cd_law_holds "_law_holds" = true)
    (k_law_holds : PySem.W.keepIn K (.ref f_law_holds) = true)
    {f_law_arithmetic : Addr} {oc_law_arithmetic : Value} {od_law_arithmetic an_law_arithmetic : Option Addr} {sl_law_arithmetic : Array (Option Value)} {kV_law_arithmetic dc_law_arithmetic pm_law_arithmetic cd_law_arithmetic ct_law_arithmetic : Value}
    (a_law_arithmetic : PySem.W.nsIn K mainGlobals "_law_arithmetic" = some (some (.ref f_law_arithmetic)))
    (l_law_arithmetic : K.lookup f_law_arithmetic = some ⟨oc_law_arithmetic, od_law_arithmetic, .func (PySem.W.fnOf "_law_arithmetic" "_law_arithmetic" (defArgs s_law_arithmetic) (defBody s_law_arithmetic) (defScope s_law_arithmetic) .none kV_law_arithmetic dc_law_arithmetic pm_law_arithmetic an_law_arithmetic cd_law_arithmetic ct_law_arithmetic), sl_law_arithmetic⟩)
    (c_law_arithmetic : PySem.W.codeIn K cd_law_arithmetic "_law_arithmetic" = true)
    (k_law_arithmetic : PySem.W.keepIn K (.ref f_law_arithmetic) = true)
    {f_law_signs : Addr} {oc_law_signs : Value} {od_law_signs an_law_signs : Option Addr} {sl_law_signs : Array (Option Value)} {kV_law_signs dc_law_signs pm_law_signs cd_law_signs ct_law_signs : Value}
    (a_law_signs : PySem.W.nsIn K mainGlobals "_law_signs" = some (some (.ref f_law_signs)))
    (l_law_signs : K.lookup f_law_signs = some ⟨oc_law_signs, od_law_signs, .func (PySem.W.fnOf "_law_signs" "_law_signs" (defArgs s_law_signs) (defBody s_law_signs) (defScope s_law_signs) .none kV_law_signs dc_law_signs pm_law_signs an_law_signs cd_law_signs ct_law_signs), sl_law_signs⟩)
    (c_law_signs : PySem.W.codeIn K cd_law_signs "_law_signs" = true)
    (k_law_signs : PySem.W.keepIn K (.ref f_law_signs) = true)
    {f_law_relations : Addr} {oc_law_relations : Value} {od_law_relations an_law_relations : Option Addr} {sl_law_relations : Array (Option Value)} {kV_law_relations dc_law_relations pm_law_relations cd_law_relations ct_law_relations : Value}
    (a_law_relations : PySem.W.nsIn K mainGlobals "_law_relations" = some (some (.ref f_law_relations)))
    (l_law_relations : K.lookup f_law_relations = some ⟨oc_law_relations, od_law_relations, .func (PySem.W.fnOf "_law_relations" "_law_relations" (defArgs s_law_relations) (defBody s_law_relations) (defScope s_law_relations) .none kV_law_relations dc_law_relations pm_law_relations an_law_relations cd_law_relations ct_law_relations), sl_law_relations⟩)
    (c_law_relations : PySem.W.codeIn K cd_law_relations "_law_relations" = true)
    (k_law_relations : PySem.W.keepIn K (.ref f_law_relations) = true)
    {f_law_fits : Addr} {oc_law_fits : Value} {od_law_fits an_law_fits : Option Addr} {sl_law_fits : Array (Option Value)} {kV_law_fits dc_law_fits pm_law_fits cd_law_fits ct_law_fits : Value}
    (a_law_fits : PySem.W.nsIn K mainGlobals "_law_fits" = some (some (.ref f_law_fits)))
    (l_law_fits : K.lookup f_law_fits = some ⟨oc_law_fits, od_law_fits, .func (PySem.W.fnOf "_law_fits" "_law_fits" (defArgs s_law_fits) (defBody s_law_fits) (defScope s_law_fits) .none kV_law_fits dc_law_fits pm_law_fits an_law_fits cd_law_fits ct_law_fits), sl_law_fits⟩)
    (c_law_fits : PySem.W.codeIn K cd_law_fits "_law_fits" = true)
    (k_law_fits : PySem.W.keepIn K (.ref f_law_fits) = true)
    {f_law : Addr} {oc_law : Value} {od_law an_law : Option Addr} {sl_law : Array (Option Value)} {kV_law dc_law pm_law cd_law ct_law : Value}
    (a_law : PySem.W.nsIn K mainGlobals "law" = some (some (.ref f_law)))
    (l_law : K.lookup f_law = some ⟨oc_law, od_law, .func (PySem.W.fnOf "law" "law" (defArgs s_law) (defBody s_law) (defScope s_law) .none kV_law dc_law pm_law an_law cd_law ct_law), sl_law⟩)
    (c_law : PySem.W.codeIn K cd_law "law" = true)
    (k_law : PySem.W.keepIn K (.ref f_law) = true)
    {t_MAX : Tok} (a_MAX : PySem.W.nsIn K mainGlobals "MAX" = some (some (.int (2147483647) t_MAX)))
    {t_MIN : Tok} (a_MIN : PySem.W.nsIn K mainGlobals "MIN" = some (some (.int (-2147483648) t_MIN)))
    (z_ValueError : PySem.W.nsIn K mainGlobals "ValueError" = some none)
    (z_abs : PySem.W.nsIn K mainGlobals "abs" = some none)
    (z_bool : PySem.W.nsIn K mainGlobals "bool" = some none)
    (z_int : PySem.W.nsIn K mainGlobals "int" = some none)
    (z_isinstance : PySem.W.nsIn K mainGlobals "isinstance" = some none)
    (z_len : PySem.W.nsIn K mainGlobals "len" = some none)
    (z_range : PySem.W.nsIn K mainGlobals "range" = some none) :
    ∃ fd : FuncData, (∀ (s : Shared) (v : Value), BindsTo s fd ⟨[v], []⟩ [("script", v)]) ∧ ∀ base : Heap, K.In base → base.Ns mainGlobals mg → FnOk l.prog w K mg base CX0 6 fa fd ["script"] (spLaw K) := by
  have e := hfa.symm.trans (PySem.W.mg_of X G a_law)
  cases e
  let a : Ad := { f_fits := f_fits, d_fits := PySem.W.fnOf "fits" "fits" (defArgs s_fits) (defBody s_fits) (defScope s_fits) .none kV_fits dc_fits pm_fits an_fits cd_fits ct_fits, f_arithmetic := f_arithmetic, d_arithmetic := PySem.W.fnOf "arithmetic" "arithmetic" (defArgs s_arithmetic) (defBody s_arithmetic) (defScope s_arithmetic) .none kV_arithmetic dc_arithmetic pm_arithmetic an_arithmetic cd_arithmetic ct_arithmetic, f_negate := f_negate, d_negate := PySem.W.fnOf "negate" "negate" (defArgs s_negate) (defBody s_negate) (defScope s_negate) .none kV_negate dc_negate pm_negate an_negate cd_negate ct_negate, f_absolute := f_absolute, d_absolute := PySem.W.fnOf "absolute" "absolute" (defArgs s_absolute) (defBody s_absolute) (defScope s_absolute) .none kV_absolute dc_absolute pm_absolute an_absolute cd_absolute ct_absolute, f_compare := f_compare, d_compare := PySem.W.fnOf "compare" "compare" (defArgs s_compare) (defBody s_compare) (defScope s_compare) .none kV_compare dc_compare pm_compare an_compare cd_compare ct_compare, f_word := f_word, d_word := PySem.W.fnOf "_word" "_word" (defArgs s_word) (defBody s_word) (defScope s_word) .none kV_word dc_word pm_word an_word cd_word ct_word, f_result := f_result, d_result := PySem.W.fnOf "_result" "_result" (defArgs s_result) (defBody s_result) (defScope s_result) .none kV_result dc_result pm_result an_result cd_result ct_result, f_quotient := f_quotient, d_quotient := PySem.W.fnOf "_quotient" "_quotient" (defArgs s_quotient) (defBody s_quotient) (defScope s_quotient) .none kV_quotient dc_quotient pm_quotient an_quotient cd_quotient ct_quotient, f_law_start := f_law_start, d_law_start := PySem.W.fnOf "_law_start" "_law_start" (defArgs s_law_start) (defBody s_law_start) (defScope s_law_start) .none kV_law_start dc_law_start pm_law_start an_law_start cd_law_start ct_law_start, f_law_take := f_law_take, d_law_take := PySem.W.fnOf "_law_take" "_law_take" (defArgs s_law_take) (defBody s_law_take) (defScope s_law_take) .none kV_law_take dc_law_take pm_law_take an_law_take cd_law_take ct_law_take, f_law_word := f_law_word, d_law_word := PySem.W.fnOf "_law_word" "_law_word" (defArgs s_law_word) (defBody s_law_word) (defScope s_law_word) .none kV_law_word dc_law_word pm_law_word an_law_word cd_law_word ct_law_word, f_law_exact := f_law_exact, d_law_exact := PySem.W.fnOf "_law_exact" "_law_exact" (defArgs s_law_exact) (defBody s_law_exact) (defScope s_law_exact) .none kV_law_exact dc_law_exact pm_law_exact an_law_exact cd_law_exact ct_law_exact, f_law_is_word := f_law_is_word, d_law_is_word := PySem.W.fnOf "_law_is_word" "_law_is_word" (defArgs s_law_is_word) (defBody s_law_is_word) (defScope s_law_is_word) .none kV_law_is_word dc_law_is_word pm_law_is_word an_law_is_word cd_law_is_word ct_law_is_word, f_law_holds := f_law_holds, d_law_holds := PySem.W.fnOf "_law_holds" "_law_holds" (defArgs s_law_holds) (defBody s_law_holds) (defScope s_law_holds) .none kV_law_holds dc_law_holds pm_law_holds an_law_holds cd_law_holds ct_law_holds, f_law_arithmetic := f_law_arithmetic, d_law_arithmetic := PySem.W.fnOf "_law_arithmetic" "_law_arithmetic" (defArgs s_law_arithmetic) (defBody s_law_arithmetic) (defScope s_law_arithmetic) .none kV_law_arithmetic dc_law_arithmetic pm_law_arithmetic an_law_arithmetic cd_law_arithmetic ct_law_arithmetic, f_law_signs := f_law_signs, d_law_signs := PySem.W.fnOf "_law_signs" "_law_signs" (defArgs s_law_signs) (defBody s_law_signs) (defScope s_law_signs) .none kV_law_signs dc_law_signs pm_law_signs an_law_signs cd_law_signs ct_law_signs, f_law_relations := f_law_relations, d_law_relations := PySem.W.fnOf "_law_relations" "_law_relations" (defArgs s_law_relations) (defBody s_law_relations) (defScope s_law_relations) .none kV_law_relations dc_law_relations pm_law_relations an_law_relations cd_law_relations ct_law_relations, f_law_fits := f_law_fits, d_law_fits := PySem.W.fnOf "_law_fits" "_law_fits" (defArgs s_law_fits) (defBody s_law_fits) (defScope s_law_fits) .none kV_law_fits dc_law_fits pm_law_fits an_law_fits cd_law_fits ct_law_fits, f_law := fa, d_law := PySem.W.fnOf "law" "law" (defArgs s_law) (defBody s_law) (defScope s_law) .none kV_law dc_law pm_law an_law cd_law ct_law, t_MAX := t_MAX, t_MIN := t_MIN, C_AdaError := C_AdaError, C_Overflow := C_Overflow, C_DivisionByZero := C_DivisionByZero }
  have T : Txt K mg a := {
    g_fits := PySem.W.mg_of X G a_fits,
    F_fits := fun_mk (st := s_fits) l_fits c_fits k_fits,
    k_fits := k_fits,
    bd_fits := (fun_mk (st := s_fits) l_fits c_fits k_fits).binds (ps := ["number"]) fun _ _ _ _ _ _ us hl => match us, hl with | [_], _ => rfl,
    g_arithmetic := PySem.W.mg_of X G a_arithmetic,
    F_arithmetic := fun_mk (st := s_arithmetic) l_arithmetic c_arithmetic k_arithmetic,
    k_arithmetic := k_arithmetic,
    bd_arithmetic := (fun_mk (st := s_arithmetic) l_arithmetic c_arithmetic k_arithmetic).binds (ps := ["op", "left", "right"]) fun _ _ _ _ _ _ us hl => match us, hl with | [_, _, _], _ => rfl,
    g_negate := PySem.W.mg_of X G a_negate,
    F_negate := fun_mk (st := s_negate) l_negate c_negate k_negate,
    k_negate := k_negate,
    bd_negate := (fun_mk (st := s_negate) l_negate c_negate k_negate).binds (ps := ["word"]) fun _ _ _ _ _ _ us hl => match us, hl with | [_], _ => rfl,
    g_absolute := PySem.W.mg_of X G a_absolute,
    F_absolute := fun_mk (st := s_absolute) l_absolute c_absolute k_absolute,
    k_absolute := k_absolute,
    bd_absolute := (fun_mk (st := s_absolute) l_absolute c_absolute k_absolute).binds (ps := ["word"]) fun _ _ _ _ _ _ us hl => match us, hl with | [_], _ => rfl,
    g_compare := PySem.W.mg_of X G a_compare,
    F_compare := fun_mk (st := s_compare) l_compare c_compare k_compare,
    k_compare := k_compare,
    bd_compare := (fun_mk (st := s_compare) l_compare c_compare k_compare).binds (ps := ["op", "left", "right"]) fun _ _ _ _ _ _ us hl => match us, hl with | [_, _, _], _ => rfl,
    g__word := PySem.W.mg_of X G a_word,
    F__word := fun_mk (st := s_word) l_word c_word k_word,
    k__word := k_word,
    bd__word := (fun_mk (st := s_word) l_word c_word k_word).binds (ps := ["number"]) fun _ _ _ _ _ _ us hl => match us, hl with | [_], _ => rfl,
    g__result := PySem.W.mg_of X G a_result,
    F__result := fun_mk (st := s_result) l_result c_result k_result,
    k__result := k_result,
    bd__result := (fun_mk (st := s_result) l_result c_result k_result).binds (ps := ["op", "left", "right"]) fun _ _ _ _ _ _ us hl => match us, hl with | [_, _, _], _ => rfl,
    g__quotient := PySem.W.mg_of X G a_quotient,
    F__quotient := fun_mk (st := s_quotient) l_quotient c_quotient k_quotient,
    k__quotient := k_quotient,
    bd__quotient := (fun_mk (st := s_quotient) l_quotient c_quotient k_quotient).binds (ps := ["left", "right"]) fun _ _ _ _ _ _ us hl => match us, hl with | [_, _], _ => rfl,
    g__law_start := PySem.W.mg_of X G a_law_start,
    F__law_start := fun_mk (st := s_law_start) l_law_start c_law_start k_law_start,
    k__law_start := k_law_start,
    bd__law_start := (fun_mk (st := s_law_start) l_law_start c_law_start k_law_start).binds (ps := ["script"]) fun _ _ _ _ _ _ us hl => match us, hl with | [_], _ => rfl,
    g__law_take := PySem.W.mg_of X G a_law_take,
    F__law_take := fun_mk (st := s_law_take) l_law_take c_law_take k_law_take,
    k__law_take := k_law_take,
    bd__law_take := (fun_mk (st := s_law_take) l_law_take c_law_take k_law_take).binds (ps := ["state", "many"]) fun _ _ _ _ _ _ us hl => match us, hl with | [_, _], _ => rfl,
    g__law_word := PySem.W.mg_of X G a_law_word,
    F__law_word := fun_mk (st := s_law_word) l_law_word c_law_word k_law_word,
    k__law_word := k_law_word,
    bd__law_word := (fun_mk (st := s_law_word) l_law_word c_law_word k_law_word).binds (ps := ["state"]) fun _ _ _ _ _ _ us hl => match us, hl with | [_], _ => rfl,
    g__law_exact := PySem.W.mg_of X G a_law_exact,
    F__law_exact := fun_mk (st := s_law_exact) l_law_exact c_law_exact k_law_exact,
    k__law_exact := k_law_exact,
    bd__law_exact := (fun_mk (st := s_law_exact) l_law_exact c_law_exact k_law_exact).binds (ps := ["op", "left", "right"]) fun _ _ _ _ _ _ us hl => match us, hl with | [_, _, _], _ => rfl,
    g__law_is_word := PySem.W.mg_of X G a_law_is_word,
    F__law_is_word := fun_mk (st := s_law_is_word) l_law_is_word c_law_is_word k_law_is_word,
    k__law_is_word := k_law_is_word,
    bd__law_is_word := (fun_mk (st := s_law_is_word) l_law_is_word c_law_is_word k_law_is_word).binds (ps := ["number"]) fun _ _ _ _ _ _ us hl => match us, hl with | [_], _ => rfl,
    g__law_holds := PySem.W.mg_of X G a_law_holds,
    F__law_holds := fun_mk (st := s_law_holds) l_law_holds c_law_holds k_law_holds,
    k__law_holds := k_law_holds,
    bd__law_holds := (fun_mk (st := s_law_holds) l_law_holds c_law_holds k_law_holds).binds (ps := ["answer", "raised", "exact"]) fun _ _ _ _ _ _ us hl => match us, hl with | [_, _, _], _ => rfl,
    g__law_arithmetic := PySem.W.mg_of X G a_law_arithmetic,
    F__law_arithmetic := fun_mk (st := s_law_arithmetic) l_law_arithmetic c_law_arithmetic k_law_arithmetic,
    k__law_arithmetic := k_law_arithmetic,
    bd__law_arithmetic := (fun_mk (st := s_law_arithmetic) l_law_arithmetic c_law_arithmetic k_law_arithmetic).binds (ps := ["op", "left", "right"]) fun _ _ _ _ _ _ us hl => match us, hl with | [_, _, _], _ => rfl,
    g__law_signs := PySem.W.mg_of X G a_law_signs,
    F__law_signs := fun_mk (st := s_law_signs) l_law_signs c_law_signs k_law_signs,
    k__law_signs := k_law_signs,
    bd__law_signs := (fun_mk (st := s_law_signs) l_law_signs c_law_signs k_law_signs).binds (ps := ["word"]) fun _ _ _ _ _ _ us hl => match us, hl with | [_], _ => rfl,
    g__law_relations := PySem.W.mg_of X G a_law_relations,
    F__law_relations := fun_mk (st := s_law_relations) l_law_relations c_law_relations k_law_relations,
    k__law_relations := k_law_relations,
    bd__law_relations := (fun_mk (st := s_law_relations) l_law_relations c_law_relations k_law_relations).binds (ps := ["left", "right"]) fun _ _ _ _ _ _ us hl => match us, hl with | [_, _], _ => rfl,
    g__law_fits := PySem.W.mg_of X G a_law_fits,
    F__law_fits := fun_mk (st := s_law_fits) l_law_fits c_law_fits k_law_fits,
    k__law_fits := k_law_fits,
    bd__law_fits := (fun_mk (st := s_law_fits) l_law_fits c_law_fits k_law_fits).binds (ps := ["number"]) fun _ _ _ _ _ _ us hl => match us, hl with | [_], _ => rfl,
    g_law := PySem.W.mg_of X G a_law,
    F_law := fun_mk (st := s_law) l_law c_law k_law,
    k_law := k_law,
    bd_law := (fun_mk (st := s_law) l_law c_law k_law).binds (ps := ["script"]) fun _ _ _ _ _ _ us hl => match us, hl with | [_], _ => rfl,
    g_MAX := PySem.W.mg_of X G a_MAX,
    g_MIN := PySem.W.mg_of X G a_MIN,
    b_ValueError := PySem.W.mg_none_of X G z_ValueError,
    b_abs := PySem.W.mg_none_of X G z_abs,
    b_bool := PySem.W.mg_none_of X G z_bool,
    b_int := PySem.W.mg_none_of X G z_int,
    b_isinstance := PySem.W.mg_none_of X G z_isinstance,
    b_len := PySem.W.mg_none_of X G z_len,
    b_range := PySem.W.mg_none_of X G z_range,
    g_AdaError := PySem.W.mg_of X G aC_AdaError,
    x_AdaError := x_AdaError,
    kC_AdaError := kC_AdaError,
    s1_AdaError := s1_AdaError,
    ty_AdaError := ty_AdaError,
    ic_AdaError := ic_AdaError,
    g_Overflow := PySem.W.mg_of X G aC_Overflow,
    x_Overflow := x_Overflow,
    kC_Overflow := kC_Overflow,
    s1_Overflow := s1_Overflow,
    ty_Overflow := ty_Overflow,
    ic_Overflow := ic_Overflow,
    ec_Overflow := ⟨h1_Overflow, h2_Overflow, s1_Overflow, h3_Overflow, h4_Overflow, h5_Overflow, h6_Overflow, h7_Overflow⟩,
    g_DivisionByZero := PySem.W.mg_of X G aC_DivisionByZero,
    x_DivisionByZero := x_DivisionByZero,
    kC_DivisionByZero := kC_DivisionByZero,
    s1_DivisionByZero := s1_DivisionByZero,
    ty_DivisionByZero := ty_DivisionByZero,
    ic_DivisionByZero := ic_DivisionByZero,
    ec_DivisionByZero := ⟨h1_DivisionByZero, h2_DivisionByZero, s1_DivisionByZero, h3_DivisionByZero, h4_DivisionByZero, h5_DivisionByZero, h6_DivisionByZero, h7_DivisionByZero⟩,
    e_Overflow_AdaError := exm_of s1_AdaError ic_AdaError ty_AdaError e_Overflow_AdaError,
    e_DivisionByZero_AdaError := exm_of s1_AdaError ic_AdaError ty_AdaError e_DivisionByZero_AdaError,
    i_Overflow_Overflow := kit_sub i_Overflow_Overflow (fun z => nomatch z) ic_Overflow ty_Overflow,
    i_Overflow_DivisionByZero := kit_sub i_Overflow_DivisionByZero (fun _ => zz_DivisionByZero) ic_DivisionByZero ty_DivisionByZero,
    i_Overflow_ValueError := kit_bt (by decide +kernel) i_Overflow_ValueError,
    i_DivisionByZero_Overflow := kit_sub i_DivisionByZero_Overflow (fun _ => zz_Overflow) ic_Overflow ty_Overflow,
    i_DivisionByZero_DivisionByZero := kit_sub i_DivisionByZero_DivisionByZero (fun z => nomatch z) ic_DivisionByZero ty_DivisionByZero,
    i_DivisionByZero_ValueError := kit_bt (by decide +kernel) i_DivisionByZero_ValueError }
  exact ⟨a.d_law, fun s v => .of_eq rfl, fun base _ _ => ok_law T⟩
theorem walk {l : PySem.W.OpenLaw} {q : Program} {loose : List Str} {XP : (Str → Option Value) → Heap → Prop} {YP : World → Heap → Prop} {d : DefRec} {K : Params → PySem.W.Frag} (hn : l.most = some 63) (hdf : d.params.defaults = [])
    (hY : ∀ (w : World) (h : Heap), YP w h → (K w.params).In h)
    (F : ∀ (w : World) (mg : Str → Option Value) (fa : Addr) (h : Heap), (K w.params).In h → h.Ns mainGlobals mg → mg d.name = some (.ref fa) →
      ∃ fd : FuncData, (∀ (s : Shared) (u : Value), BindsTo s fd ⟨[u], []⟩ [("script", u)]) ∧ ∀ base : Heap, (K w.params).In base → base.Ns mainGlobals mg → FnOk l.prog w (K w.params) mg base CX0 6 fa fd ["script"] (spLaw (K w.params))) :
    PySem.W.WalkO q loose XP YP l.row.toRowW d [] (fun f vs => PySem.call f vs) :=
  L2.walk_of (n := 63) (k := 6) (x := "script") (CX := fun _ => CX0) (sp := fun w => spLaw (K w.params)) hn (by decide) hdf ⟨rfl, by decide, by decide⟩ hY F (fun _ _ a ns hl _ hS => ⟨a, ns, rfl, hS, hl, fun _ => rfl⟩) fun _ _ _ _ _ z => z

end My
open PySem PySem.W PyProof.Rows
set_option maxRecDepth 100000 in
set_option maxHeartbeats 0 in
theorem PySem.Challenge.cw_windowada_k17_word_arithmetic_holds : PySem.Challenge.rw_windowada_k17_word_arithmetic.Holds := by
  w_on; o_law; k_head; (case hw => w_witness2)
  k_fill
  refine My.walk (l := PySem.Challenge.rw_windowada_k17_word_arithmetic) rfl rfl (fun w h Y => PySem.W.kIn_of Y) ?F
  case F =>
    intro w mg fa h KX G hmg
    refine' My.all_mk KX G hmg ?aC_AdaError ?x_AdaError ?kC_AdaError ?s1_AdaError ?ty_AdaError ?ic_AdaError ?aC_Overflow ?x_Overflow ?kC_Overflow ?s1_Overflow ?ty_Overflow ?ic_Overflow ?h1_Overflow ?h2_Overflow ?h3_Overflow ?h4_Overflow ?h5_Overflow ?h6_Overflow ?h7_Overflow ?aC_DivisionByZero ?x_DivisionByZero ?kC_DivisionByZero ?s1_DivisionByZero ?ty_DivisionByZero ?ic_DivisionByZero ?h1_DivisionByZero ?h2_DivisionByZero ?h3_DivisionByZero ?h4_DivisionByZero ?h5_DivisionByZero ?h6_DivisionByZero ?h7_DivisionByZero ?e_Overflow_AdaError ?e_DivisionByZero_AdaError ?zz_DivisionByZero ?zz_Overflow ?i_Overflow_Overflow ?i_Overflow_DivisionByZero ?i_Overflow_ValueError ?i_DivisionByZero_Overflow ?i_DivisionByZero_DivisionByZero ?i_DivisionByZero_ValueError ?a_fits ?l_fits ?c_fits ?k_fits ?a_arithmetic ?l_arithmetic ?c_arithmetic ?k_arithmetic ?a_negate ?l_negate ?c_negate ?k_negate ?a_absolute ?l_absolute ?c_absolute ?k_absolute ?a_compare ?l_compare ?c_compare ?k_compare ?a_word ?l_word ?c_word ?k_word ?a_result ?l_result ?c_result ?k_result ?a_quotient ?l_quotient ?c_quotient ?k_quotient ?a_law_start ?l_law_start ?c_law_start ?k_law_start ?a_law_take ?l_law_take ?c_law_take ?k_law_take ?a_law_word ?l_law_word ?c_law_word ?k_law_word ?a_law_exact ?l_law_exact ?c_law_exact ?k_law_exact ?a_law_is_word ?l_law_is_word ?c_law_is_word ?k_law_is_word ?a_law_holds ?l_law_holds ?c_law_holds ?k_law_holds ?a_law_arithmetic ?l_law_arithmetic ?c_law_arithmetic ?k_law_arithmetic ?a_law_signs ?l_law_signs ?c_law_signs ?k_law_signs ?a_law_relations ?l_law_relations ?c_law_relations ?k_law_relations ?a_law_fits ?l_law_fits ?c_law_fits ?k_law_fits ?a_law ?l_law ?c_law ?k_law ?a_MAX ?a_MIN ?z_ValueError ?z_abs ?z_bool ?z_int ?z_isinstance ?z_len ?z_range
    (case aC_AdaError => k_is)
    (case x_AdaError => k_exc)
    (case kC_AdaError => k_is)
    (case s1_AdaError => k_is)
    (case ty_AdaError => k_is)
    (case ic_AdaError => k_is)
    (case aC_Overflow => k_is)
    (case x_Overflow => k_exc)
    (case kC_Overflow => k_is)
    (case s1_Overflow => k_is)
    (case ty_Overflow => k_is)
    (case ic_Overflow => k_is)
    (case h1_Overflow => k_is)
    (case h2_Overflow => k_is)
    (case h3_Overflow => k_is)
    (case h4_Overflow => k_is)
    (case h5_Overflow => k_is)
    (case h6_Overflow => k_is)
    (case h7_Overflow => k_is)
    (case aC_DivisionByZero => k_is)
    (case x_DivisionByZero => k_exc)
    (case kC_DivisionByZero => k_is)
    (case s1_DivisionByZero => k_is)
    (case ty_DivisionByZero => k_is)
    (case ic_DivisionByZero => k_is)
    (case h1_DivisionByZero => k_is)
    (case h2_DivisionByZero => k_is)
    (case h3_DivisionByZero => k_is)
    (case h4_DivisionByZero => k_is)
    (case h5_DivisionByZero => k_is)
    (case h6_DivisionByZero => k_is)
    (case h7_DivisionByZero => k_is)
    (case e_Overflow_AdaError => first | rfl | k_is)
    (case e_DivisionByZero_AdaError => first | rfl | k_is)
    (case zz_DivisionByZero => first | rfl | k_is)
    (case zz_Overflow => first | rfl | k_is)
    (case i_Overflow_Overflow => first | rfl | k_is)
    (case i_Overflow_DivisionByZero => first | rfl | k_is)
    (case i_Overflow_ValueError => first | rfl | k_is)
    (case i_DivisionByZero_Overflow => first | rfl | k_is)
    (case i_DivisionByZero_DivisionByZero => first | rfl | k_is)
    (case i_DivisionByZero_ValueError => first | rfl | k_is)
    (case a_fits => k_is)
    (case l_fits => k_is)
    (case c_fits => k_is)
    (case k_fits => k_is)
    (case a_arithmetic => k_is)
    (case l_arithmetic => k_is)
    (case c_arithmetic => k_is)
    (case k_arithmetic => k_is)
    (case a_negate => k_is)
    (case l_negate => k_is)
    (case c_negate => k_is)
    (case k_negate => k_is)
    (case a_absolute => k_is)
    (case l_absolute => k_is)
    (case c_absolute => k_is)
    (case k_absolute => k_is)
    (case a_compare => k_is)
    (case l_compare => k_is)
    (case c_compare => k_is)
    (case k_compare => k_is)
    (case a_word => k_is)
    (case l_word => k_is)
    (case c_word => k_is)
    (case k_word => k_is)
    (case a_result => k_is)
    (case l_result => k_is)
    (case c_result => k_is)
    (case k_result => k_is)
    (case a_quotient => k_is)
    (case l_quotient => k_is)
    (case c_quotient => k_is)
    (case k_quotient => k_is)
    (case a_law_start => k_is)
    (case l_law_start => k_is)
    (case c_law_start => k_is)
    (case k_law_start => k_is)
    (case a_law_take => k_is)
    (case l_law_take => k_is)
    (case c_law_take => k_is)
    (case k_law_take => k_is)
    (case a_law_word => k_is)
    (case l_law_word => k_is)
    (case c_law_word => k_is)
    (case k_law_word => k_is)
    (case a_law_exact => k_is)
    (case l_law_exact => k_is)
    (case c_law_exact => k_is)
    (case k_law_exact => k_is)
    (case a_law_is_word => k_is)
    (case l_law_is_word => k_is)
    (case c_law_is_word => k_is)
    (case k_law_is_word => k_is)
    (case a_law_holds => k_is)
    (case l_law_holds => k_is)
    (case c_law_holds => k_is)
    (case k_law_holds => k_is)
    (case a_law_arithmetic => k_is)
    (case l_law_arithmetic => k_is)
    (case c_law_arithmetic => k_is)
    (case k_law_arithmetic => k_is)
    (case a_law_signs => k_is)
    (case l_law_signs => k_is)
    (case c_law_signs => k_is)
    (case k_law_signs => k_is)
    (case a_law_relations => k_is)
    (case l_law_relations => k_is)
    (case c_law_relations => k_is)
    (case k_law_relations => k_is)
    (case a_law_fits => k_is)
    (case l_law_fits => k_is)
    (case c_law_fits => k_is)
    (case k_law_fits => k_is)
    (case a_law => k_is)
    (case l_law => k_is)
    (case c_law => k_is)
    (case k_law => k_is)
    (case a_MAX => k_is)
    (case a_MIN => k_is)
    (case z_ValueError => k_is)
    (case z_abs => k_is)
    (case z_bool => k_is)
    (case z_int => k_is)
    (case z_isinstance => k_is)
    (case z_len => k_is)
    (case z_range => k_is)

