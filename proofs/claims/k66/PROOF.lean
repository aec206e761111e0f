import PyProof.Rows.All
import Wide.All
import OpenK.AllK
import Wide.FinOn
import HandS.ForMost
import HandS.ForExc
import HandS.Wide
import HandS.IsInst
import HandS.ExcIs
import HandS.WordsExc
import HandS.Property
import HandS.More
import HandS.Codes
import HandS.TupMul
import HandS.Strs
import HandS.SetFor
import HandS.TryOnly
import HandS.Star
import KE.GoesZip
import KE.GoesEnum
import KE.KItemsList
import HandS.Conv
import HandS.TryMany
import HandS.Style
import PySem.Challenge.RW_windowada_k66_tower
set_option Elab.async false
set_option maxRecDepth 100000
set_option maxHeartbeats 4000000
set_option linter.all false
namespace My
open PySem L2
/-! ### helpers -/
def IsTupOf (o : Obj) (xs : List V) : Prop := o.cls = .type "tuple" ∧ ∃ (its : Array Value) (n : Nat), o.data = .seq its n ∧ its.size ≤ sizeLine ∧ Vals xs its.toList
theorem sqT_of {K : PySem.W.Frag} {H : Hp} {a : Addr} {o : Obj} {xs : List V} (h : K.lookup a = some o) (q : IsTupOf o xs) : SqT K H a xs := by
  obtain ⟨c, its, n, d, z, r⟩ := q
  exact .inr ⟨o, its, n, h, c, d, z, r⟩
theorem upd_self {H : Hp} {a : Addr} {o : HO} (h : H a = some o) : upd H a o = H := by
  funext b
  unfold upd
  split
  · rename_i e; rw [e, h]
  · rfl
theorem exm_of {K : PySem.W.Frag} {S C : Addr} (h1 : PySem.W.subIn K (.ref C) (.type "BaseException") = some true) (h2 : PySem.W.isClsIn K C = true) (h3 : PySem.W.typeIn K (.ref C) = some (.type "type")) {b : Bool} (h4 : PySem.W.subIn K (.ref S) (.ref C) = some b) :
    PySem.W.exmOne K (.ref S) (.ref C) = some b := by
  have e1 : (PySem.W.subIn K (.ref C) (.type "BaseException") == some true) = true := by rw [h1] <;> rfl
  have e2 : ((PySem.W.clsIn K C).isSome && PySem.W.typeIn K (.ref C) == some (.type "type")) = true := by
    have h2' : (PySem.W.clsIn K C).isSome = true := h2
    rw [h2', h3] <;> rfl
  show (if (PySem.W.subIn K (.ref C) (.type "BaseException") == some true) = true then (if ((PySem.W.clsIn K C).isSome && PySem.W.typeIn K (.ref C) == some (.type "type")) = true then PySem.W.subIn K (.ref S) (.ref C) else none) else none) = some b
  rw [if_pos e1, if_pos e2]
  exact h4
theorem sN {H H1 : Hp} {p : Addr} {o : HO} (s : Same H H1) (n : H1 p = none) : Same H (upd H1 p o) := fun b u e => by
  rw [upd_ne (ne_of_none (s b u e) n)]
  exact s b u e
theorem seqT {K : PySem.W.Frag} {H H' : Hp} {a : Addr} {xs : List V} (e : Same H H') (h : SqT K H a xs) : SqT K H' a xs := by
  rcases h with (h | ⟨o, h⟩) | h
  · exact .inl (.inl (e _ _ h))
  · exact .inl (.inr ⟨o, e _ _ h⟩)
  · exact .inr h
theorem ite3 {b : Bool} {A B : Prop} (h1 : b = true → A) (h2 : b = false → B) : if b = true then A else B := by
  cases b with
  | true => exact iteT (h1 rfl)
  | false => exact iteF (h2 rfl)
section
variable {X : Cx}
def rInS (K : PySem.W.Frag) : R2 := fun x y H Q => ∃ p xs, y = .ref p ∧ (SqL K H p xs ∨ SqT K H p xs) ∧ flatV x = true ∧ xs.all flatV = true ∧ Q (.bl (inV x xs)) H
def rNotInS (K : PySem.W.Frag) : R2 := fun x y H Q => ∃ p xs, y = .ref p ∧ (SqL K H p xs ∨ SqT K H p xs) ∧ flatV x = true ∧ xs.all flatV = true ∧ Q (.bl (!inV x xs)) H
theorem op_inS : OpR X (compareOp .In) (rInS X.K) := fun pins s σ H x y v u Q I rx ry h => op_in_seq pins s σ H x y v u Q I rx ry h
theorem op_notInS : OpR X (compareOp .NotIn) (rNotInS X.K) := fun pins s σ H x y v u Q I rx ry h => op_notIn_seq pins s σ H x y v u Q I rx ry h
end
theorem at0 {v : V} {r : List V} : atI (v :: r) 0 = some v := atI_nat (j := 0) rfl
theorem sUpd {H H1 : Hp} {p : Addr} {o : HO} (s : Same H H1) (n : H p = none) : Same H (upd H1 p o) := fun b u e => by
  rw [upd_ne (ne_of_none e n)]
  exact s b u e
/-! ### match over a value -/
structure PMC (X : Cx) (cases : List MatchCase) (t : V → TS) : Prop where
  run : ∀ (first : Bool) (pins : List (Addr × Obj)) (s : Shared) (σ : St) (H : Hp) (D : Ends) (x : V) (v : Value), Inv X pins σ H s → RelV x v → t x D σ H → wpAny (model X.prog X.w) X.A (matchCases cases X.env v first) (SP X pins D) X.xe s
def mNil : V → TS := fun _ D σ H => D.nx σ H
def mStr (z : Str) (t : TS) (u : V → TS) : V → TS := fun x D σ H => scal x (.str z) = true ∧ if decide (x = .str z) = true then t D σ H else u x D σ H
def tMatch (te : TE) (t : V → TS) : TS := fun D σ H => te σ H fun x H1 => t x D σ H1
section
variable {X : Cx}
theorem pmc_nil : PMC X [] mNil := ⟨fun _ _ _ σ H D x v I _ h => wpAny_matchCases_nil ⟨σ, H, I, h⟩⟩
theorem pmc_str {z : Str} {j : Nat} {p p2 : Pos} {body : List Stmt} {rest : List MatchCase} {t : TS} {u : V → TS} (hb : PSs X body t) (hr : PMC X rest u) : PMC X (⟨.MatchValue (.Constant (.str z) j p) p2, none, body⟩ :: rest) (mStr z t u) := by
  refine ⟨fun first pins s σ H D x v I r h => ?_⟩
  obtain ⟨hs, h⟩ := h
  refine wpAny_matchCases_cons (wpAny_matchPattern_Value ?_)
  have hz : PE X (.Constant (.str z) j p) (tC (.str z)) := pe_str
  refine thn (hz.run pins s σ H (fun y H1 => y = .str z ∧ H1 = H) I ⟨rfl, rfl⟩) fun w s1 ⟨y, H1, I1, r1, e1, e2⟩ => ?_
  subst e1; subst e2
  refine thn (op_eq pins s1 σ H1 x (.str z) v w (fun y H2 => y = .bl (decide (x = .str z)) ∧ H2 = H1) I1 r r1 ⟨hs, rfl, rfl⟩) fun c s2 ⟨y, H2, I2, r2, e1, e2⟩ => ?_
  subst e1; subst e2
  cases r2
  refine wpAny_truthy_bool ?_
  cases e : decide (x = V.str z) with
  | true =>
    rw [e] at h
    refine wpAny_assignInOrder_none ?_
    exact hb.run pins s2 σ H2 D I2 (by simpa using h)
  | false =>
    rw [e] at h
    exact hr.run false pins s2 σ H2 D x v I2 r (by simpa using h)
theorem ps_match {e : Expr} {cs : List MatchCase} {pos : Pos} {te : TE} {t : V → TS} (he : PE X e te) (hc : PMC X cs t) : PS X (.Match e cs pos) (tMatch te t) := by
  refine ⟨fun pins s σ H D I h => ?_⟩
  exact wpAny_Match (thn (he.run pins s σ H _ I h) fun v s1 ⟨x, H1, I1, r1, q1⟩ => hc.run true pins s1 σ H1 D x v I1 r1 q1)
/-- isinstance(e, c) in a suite, whatever the caught class is -/
def rIsEx (K : PySem.W.Frag) (a : Addr) (cls : Value) (d : Option Addr) : List V → Hp → VK → Prop := fun xs H Q => ∃ D, cls = .ref D ∧ d = none ∧ ExcC K D ∧ rIsE K D a xs H Q
theorem call_isEx {a : Addr} {cls : Value} {d : Option Addr} {oe : Obj} {pn : List (Addr × Obj)} (hz : Zc cls d oe) (hf : ∃ vs, oe.data = .fields vs) : CallR (X.suite a ((a, oe) :: pn)) (.builtin "isinstance") (rIsEx X.K a cls d) := by
  intro pins s σ H xs us Q I r h
  obtain ⟨D, rfl, rfl, C, h⟩ := h
  exact call_isE C hz hf pins s σ H xs us Q I r h
end
theorem kit_self {K : PySem.W.Frag} {D : Addr} : PySem.W.kitOne K (.ref D) (.ref D) = some true := by
  unfold PySem.W.kitOne
  rw [if_pos (by simp)]
theorem kit_no {K : PySem.W.Frag} {D C : Addr} (h : PySem.W.subIn K (.ref D) (.ref C) = some false) (hs : PySem.W.subIn K (.ref C) (.ref C) = some true) (h2 : PySem.W.isClsIn K C = true) (h3 : PySem.W.typeIn K (.ref C) = some (.type "type")) :
    PySem.W.kitOne K (.ref D) (.ref C) = some false := by
  have ne : ¬ ((Value.ref D == Value.ref C) = true) := fun e => by
    have e' : D = C := by simpa using e
    subst e'
    rw [h] at hs
    exact nomatch hs
  have e2 : ((PySem.W.clsIn K C).isSome && PySem.W.typeIn K (.ref C) == some (.type "type")) = true := by
    have h2' : (PySem.W.clsIn K C).isSome = true := h2
    rw [h2', h3] <;> rfl
  unfold PySem.W.kitOne
  rw [if_neg ne]
  show (if ((PySem.W.clsIn K C).isSome && PySem.W.typeIn K (.ref C) == some (.type "type")) = true then PySem.W.subIn K (.ref D) (.ref C) else none) = some false
  rw [if_pos e2]
  exact h
theorem kit_sub {K : PySem.W.Frag} {D C : Addr} {b : Bool} (h : PySem.W.subIn K (.ref D) (.ref C) = some b) (hs : b = false → PySem.W.subIn K (.ref C) (.ref C) = some true) (h2 : PySem.W.isClsIn K C = true) (h3 : PySem.W.typeIn K (.ref C) = some (.type "type")) :
    PySem.W.kitOne K (.ref D) (.ref C) = some b := by
  cases b with
  | false => exact kit_no h (hs rfl) h2 h3
  | true =>
    have e2 : ((PySem.W.clsIn K C).isSome && PySem.W.typeIn K (.ref C) == some (.type "type")) = true := by
      have h2' : (PySem.W.clsIn K C).isSome = true := h2
      rw [h2', h3] <;> rfl
    unfold PySem.W.kitOne
    split
    · rfl
    · show (if ((PySem.W.clsIn K C).isSome && PySem.W.typeIn K (.ref C) == some (.type "type")) = true then PySem.W.subIn K (.ref D) (.ref C) else none) = some true
      rw [if_pos e2]
      exact h
theorem kit_bt {K : PySem.W.Frag} {D : Addr} {n : String} {b : Bool} (hm : PySem.W.kitMeta n = true) (h : PySem.W.subIn K (.ref D) (.type n) = some b) : PySem.W.kitOne K (.ref D) (.type n) = some b := by
  unfold PySem.W.kitOne
  rw [if_neg (by simp)]
  show (if PySem.W.kitMeta n = true then PySem.W.subIn K (.ref D) (.type n) else none) = some b
  rw [if_pos hm]
  exact h
/-! ### a method that may raise, called in a try -/
section
variable {X : Cx} {CX : CXT} {k : Nat} {f C : Addr} {fd : FuncData} {ps : List Str} {sp : Sp} {E : St → XK} {m : Str} {pos apos : Pos} {e o : Expr} {es : List Expr} {ta : TE} {t : TA}
def tMethE (C : Addr) (m : Str) (sp : Sp) (E : St → XK) (ta : TE) (t : TA) : TE := fun σ H Q => ta σ H fun x H1 => ∃ a dx fs, x = .ref a ∧ H1 a = some (.ins C dx fs) ∧ fs.lookup m = none ∧ t σ H1 fun vs H2 => sp (x :: vs) H2 Q (E σ)
theorem pe_methE0 {pl : Sem Bool} (he : PE X o ta) (c : Cls X.K C) (hm : Meth X.K C m f) (F : FnOk X.prog X.w X.K X.mg X.base CX k f fd ps sp) (hr : Room k X.A) (hb : Binds X.K fd ps []) (hx : ∀ σ, PassesAt CX X σ (E σ))
    (ht : eval (.Call (.Attribute o m apos) [] [] pos) X.env = (do
      let ov ← eval o X.env
      standAt apos.atName
      let (f, first) ← holding [ov] (getMethod ov m pl)
      callWith pos f first (backTo pos (starEach [] X.env)) (backToKw pos (keywordEach [] X.env))) := by rfl) :
    PE X (.Call (.Attribute o m apos) [] [] pos) (tMethE C m sp E ta tNil) := by
  refine ⟨fun pins s σ H Q I h => ?_⟩
  refine PySem.W.methodCall_KW (pl := pl) (thn (he.run pins s σ H _ I h) fun u s1 ⟨x, H1, I1, rx, a, dx, fs, ex, ea, l, q⟩ => ?_) ht
  subst ex
  obtain rfl : u = Value.ref a := rx
  refine getmeth_ok I1 ea c hm l ?_
  exact PySem.W.callWith_K0 (first := [.ref a]) I1.kIn hm.kp (run_fnS (us := [.ref a]) (vs := [.ref a]) F hr hb (hx σ) I1 (.cons rfl .nil) q)
theorem pe_methE {pl : Sem Bool} (he : PE X o ta) (c : Cls X.K C) (hm : Meth X.K C m f) (F : FnOk X.prog X.w X.K X.mg X.base CX k f fd ps sp) (hr : Room k X.A) (hb : Binds X.K fd ps []) (hx : ∀ σ, PassesAt CX X σ (E σ)) (ha : PA X (e :: es) t)
    (hst : starEach (e :: es) X.env = (false, eval e X.env) :: starEach es X.env := by rfl) (hpl : (backTo pos (starEach es X.env)).any (·.1) = false := by rfl)
    (ht : eval (.Call (.Attribute o m apos) (e :: es) [] pos) X.env = (do
      let ov ← eval o X.env
      standAt apos.atName
      let (f, first) ← holding [ov] (getMethod ov m pl)
      callWith pos f first (backTo pos (starEach (e :: es) X.env)) (backToKw pos (keywordEach [] X.env))) := by rfl) :
    PE X (.Call (.Attribute o m apos) (e :: es) [] pos) (tMethE C m sp E ta t) := by
  refine ⟨fun pins s σ H Q I h => ?_⟩
  refine PySem.W.methodCall_KW (pl := pl) (thn (he.run pins s σ H _ I h) fun u s1 ⟨x, H1, I1, rx, a, dx, fs, ex, ea, l, q⟩ => ?_) ht
  subst ex
  obtain rfl : u = Value.ref a := rx
  refine getmeth_ok I1 ea c hm l ?_
  refine PySem.W.callWith_K (first := [.ref a]) (h₀ := X.base) I.ok.mod.kin hm.kp (thn (ha.run pos pins s1 σ H1 _ I1 q) fun us s2 ⟨vs, H2, I2, r, q2⟩ => ⟨I2.kIn, ?_⟩) hst hpl
  exact run_fnS (us := .ref a :: us) (vs := .ref a :: vs) F hr hb (hx σ) I2 (.cons rfl r) q2
end
def spNever : Sp := fun _ _ _ _ => False
theorem tyx_tup {K : PySem.W.Frag} {H : Hp} {a : Addr} {xs : List V} (h : SqT K H a xs) : TyX K H (.ref a) (.type "tuple") := by
  rcases h with (h | ⟨o, h⟩) | ⟨o, its, n, hk, hc, _⟩
  · exact .base (.tup h)
  · exact .fTuple h
  · exact .kTuple hk hc

def top (i : Nat) : Stmt := PySem.Challenge.pw_windowada_k66_tower.main.body.getD i (.Pass ⟨0, 0, 0, 0⟩)
abbrev s_empty_view : Stmt := top 4
abbrev s_locals_and_ins : Stmt := top 5
abbrev s_view_below : Stmt := top 6
abbrev s_view_above : Stmt := top 7
abbrev s_Tower___init__ : Stmt := inClass (top 9) 0
abbrev s_Tower_read : Stmt := inClass (top 9) 1
abbrev s_Tower_write : Stmt := inClass (top 9) 2
abbrev s_Tower_shift_down : Stmt := inClass (top 9) 3
abbrev s_Tower_shift_up : Stmt := inClass (top 9) 4
abbrev s_Tower_blocked_down : Stmt := inClass (top 9) 5
abbrev s_Tower_blocked_up : Stmt := inClass (top 9) 6
abbrev s_law_pick : Stmt := top 11
abbrev s_law_is_integer : Stmt := top 12
abbrev s_law_word : Stmt := top 13
abbrev s_law_fresh : Stmt := top 14
abbrev s_law_find : Stmt := top 15
abbrev s_law_get : Stmt := top 16
abbrev s_law_set : Stmt := top 17
abbrev s_law_down : Stmt := top 18
abbrev s_law_up : Stmt := top 19
abbrev s_law_reads : Stmt := top 20
abbrev s_law_deed : Stmt := top 21
abbrev s_law : Stmt := top 22
theorem sc_empty_view : FnScope [] [] (defScope s_empty_view) := ⟨rfl, rfl, rfl, by decide +kernel, rfl, by decide +kernel, by decide +kernel⟩
theorem sc_locals_and_ins : FnScope ["view"] ["view"] (defScope s_locals_and_ins) := ⟨rfl, rfl, rfl, by decide +kernel, rfl, by decide +kernel, by decide +kernel⟩
theorem sc_view_below : FnScope ["view"] ["view"] (defScope s_view_below) := ⟨rfl, rfl, rfl, by decide +kernel, rfl, by decide +kernel, by decide +kernel⟩
theorem sc_view_above : FnScope ["view", "words"] ["view", "words"] (defScope s_view_above) := ⟨rfl, rfl, rfl, by decide +kernel, rfl, by decide +kernel, by decide +kernel⟩
theorem sc_Tower___init__ : FnScope ["self"] ["self"] (defScope s_Tower___init__) := ⟨rfl, rfl, rfl, by decide +kernel, rfl, by decide +kernel, by decide +kernel⟩
theorem sc_Tower_read : FnScope ["self", "number"] ["self", "number"] (defScope s_Tower_read) := ⟨rfl, rfl, rfl, by decide +kernel, rfl, by decide +kernel, by decide +kernel⟩
theorem sc_Tower_write : FnScope ["self", "number", "word"] ["self", "number", "word"] (defScope s_Tower_write) := ⟨rfl, rfl, rfl, by decide +kernel, rfl, by decide +kernel, by decide +kernel⟩
theorem sc_Tower_shift_down : FnScope ["self"] ["self"] (defScope s_Tower_shift_down) := ⟨rfl, rfl, rfl, by decide +kernel, rfl, by decide +kernel, by decide +kernel⟩
theorem sc_Tower_shift_up : FnScope ["self"] ["self"] (defScope s_Tower_shift_up) := ⟨rfl, rfl, rfl, by decide +kernel, rfl, by decide +kernel, by decide +kernel⟩
theorem sc_Tower_blocked_down : FnScope ["self"] ["self"] (defScope s_Tower_blocked_down) := ⟨rfl, rfl, rfl, by decide +kernel, rfl, by decide +kernel, by decide +kernel⟩
theorem sc_Tower_blocked_up : FnScope ["self"] ["self"] (defScope s_Tower_blocked_up) := ⟨rfl, rfl, rfl, by decide +kernel, rfl, by decide +kernel, by decide +kernel⟩
theorem sc_law_pick : FnScope ["state", "limit", "digit", "cell", "mixed"] ["state", "limit"] (defScope s_law_pick) := ⟨rfl, rfl, rfl, by decide +kernel, rfl, by decide +kernel, by decide +kernel⟩
theorem sc_law_is_integer : FnScope ["actual"] ["actual"] (defScope s_law_is_integer) := ⟨rfl, rfl, rfl, by decide +kernel, rfl, by decide +kernel, by decide +kernel⟩
theorem sc_law_word : FnScope ["state", "choice"] ["state"] (defScope s_law_word) := ⟨rfl, rfl, rfl, by decide +kernel, rfl, by decide +kernel, by decide +kernel⟩
theorem sc_law_fresh : FnScope [] [] (defScope s_law_fresh) := ⟨rfl, rfl, rfl, by decide +kernel, rfl, by decide +kernel, by decide +kernel⟩
theorem sc_law_find : FnScope ["model", "number", "last"] ["model", "number"] (defScope s_law_find) := ⟨rfl, rfl, rfl, by decide +kernel, rfl, by decide +kernel, by decide +kernel⟩
theorem sc_law_get : FnScope ["model", "number", "found"] ["model", "number"] (defScope s_law_get) := ⟨rfl, rfl, rfl, by decide +kernel, rfl, by decide +kernel, by decide +kernel⟩
theorem sc_law_set : FnScope ["model", "number", "word", "found", "group"] ["model", "number", "word"] (defScope s_law_set) := ⟨rfl, rfl, rfl, by decide +kernel, rfl, by decide +kernel, by decide +kernel⟩
theorem sc_law_down : FnScope ["model"] ["model"] (defScope s_law_down) := ⟨rfl, rfl, rfl, by decide +kernel, rfl, by decide +kernel, by decide +kernel⟩
theorem sc_law_up : FnScope ["model"] ["model"] (defScope s_law_up) := ⟨rfl, rfl, rfl, by decide +kernel, rfl, by decide +kernel, by decide +kernel⟩
theorem sc_law_reads : FnScope ["tower", "model", "number", "word", "counts"] ["tower", "model"] (defScope s_law_reads) := ⟨rfl, rfl, rfl, by decide +kernel, rfl, by decide +kernel, by decide +kernel⟩
theorem sc_law_deed : FnScope ["state", "tower", "model", "choice", "number", "word"] ["state", "tower", "model"] (defScope s_law_deed) := ⟨rfl, rfl, rfl, by decide +kernel, rfl, by decide +kernel, by decide +kernel⟩
theorem sc_law : FnScope ["script", "state", "towers", "models", "turn", "k"] ["script"] (defScope s_law) := ⟨rfl, rfl, rfl, by decide +kernel, rfl, by decide +kernel, by decide +kernel⟩
structure Ad where
  f_empty_view : Addr
  d_empty_view : FuncData
  f_locals_and_ins : Addr
  d_locals_and_ins : FuncData
  f_view_below : Addr
  d_view_below : FuncData
  f_view_above : Addr
  d_view_above : FuncData
  f_Tower___init__ : Addr
  d_Tower___init__ : FuncData
  f_Tower_read : Addr
  d_Tower_read : FuncData
  f_Tower_write : Addr
  d_Tower_write : FuncData
  f_Tower_shift_down : Addr
  d_Tower_shift_down : FuncData
  f_Tower_shift_up : Addr
  d_Tower_shift_up : FuncData
  f_Tower_blocked_down : Addr
  d_Tower_blocked_down : FuncData
  f_Tower_blocked_up : Addr
  d_Tower_blocked_up : FuncData
  f_law_pick : Addr
  d_law_pick : FuncData
  f_law_is_integer : Addr
  d_law_is_integer : FuncData
  f_law_word : Addr
  d_law_word : FuncData
  f_law_fresh : Addr
  d_law_fresh : FuncData
  f_law_find : Addr
  d_law_find : FuncData
  f_law_get : Addr
  d_law_get : FuncData
  f_law_set : Addr
  d_law_set : FuncData
  f_law_down : Addr
  d_law_down : FuncData
  f_law_up : Addr
  d_law_up : FuncData
  f_law_reads : Addr
  d_law_reads : FuncData
  f_law_deed : Addr
  d_law_deed : FuncData
  f_law : Addr
  d_law : FuncData
  t_FIRST_IN : Tok
  t_FIRST_LOCAL : Tok
  t_FIRST_OUT : Tok
  C_Tower : Addr
structure Txt (K : PySem.W.Frag) (mg : Str → Option Value) (a : Ad) : Prop where
  g_empty_view : mg "empty_view" = some (.ref a.f_empty_view)
  F_empty_view : Fun K "empty_view" "empty_view" s_empty_view a.f_empty_view a.d_empty_view
  k_empty_view : PySem.W.keepIn K (.ref a.f_empty_view) = true
  bd_empty_view : Binds K a.d_empty_view [] []
  g_locals_and_ins : mg "locals_and_ins" = some (.ref a.f_locals_and_ins)
  F_locals_and_ins : Fun K "locals_and_ins" "locals_and_ins" s_locals_and_ins a.f_locals_and_ins a.d_locals_and_ins
  k_locals_and_ins : PySem.W.keepIn K (.ref a.f_locals_and_ins) = true
  bd_locals_and_ins : Binds K a.d_locals_and_ins ["view"] []
  g_view_below : mg "view_below" = some (.ref a.f_view_below)
  F_view_below : Fun K "view_below" "view_below" s_view_below a.f_view_below a.d_view_below
  k_view_below : PySem.W.keepIn K (.ref a.f_view_below) = true
  bd_view_below : Binds K a.d_view_below ["view"] []
  g_view_above : mg "view_above" = some (.ref a.f_view_above)
  F_view_above : Fun K "view_above" "view_above" s_view_above a.f_view_above a.d_view_above
  k_view_above : PySem.W.keepIn K (.ref a.f_view_above) = true
  bd_view_above : Binds K a.d_view_above ["view", "words"] []
  F_Tower___init__ : Fun K "__init__" "Tower.__init__" s_Tower___init__ a.f_Tower___init__ a.d_Tower___init__
  k_Tower___init__ : PySem.W.keepIn K (.ref a.f_Tower___init__) = true
  bd_Tower___init__ : Binds K a.d_Tower___init__ ["self"] []
  F_Tower_read : Fun K "read" "Tower.read" s_Tower_read a.f_Tower_read a.d_Tower_read
  k_Tower_read : PySem.W.keepIn K (.ref a.f_Tower_read) = true
  bd_Tower_read : Binds K a.d_Tower_read ["self", "number"] []
  F_Tower_write : Fun K "write" "Tower.write" s_Tower_write a.f_Tower_write a.d_Tower_write
  k_Tower_write : PySem.W.keepIn K (.ref a.f_Tower_write) = true
  bd_Tower_write : Binds K a.d_Tower_write ["self", "number", "word"] []
  F_Tower_shift_down : Fun K "shift_down" "Tower.shift_down" s_Tower_shift_down a.f_Tower_shift_down a.d_Tower_shift_down
  k_Tower_shift_down : PySem.W.keepIn K (.ref a.f_Tower_shift_down) = true
  bd_Tower_shift_down : Binds K a.d_Tower_shift_down ["self"] []
  F_Tower_shift_up : Fun K "shift_up" "Tower.shift_up" s_Tower_shift_up a.f_Tower_shift_up a.d_Tower_shift_up
  k_Tower_shift_up : PySem.W.keepIn K (.ref a.f_Tower_shift_up) = true
  bd_Tower_shift_up : Binds K a.d_Tower_shift_up ["self"] []
  F_Tower_blocked_down : Fun K "blocked_down" "Tower.blocked_down" s_Tower_blocked_down a.f_Tower_blocked_down a.d_Tower_blocked_down
  k_Tower_blocked_down : PySem.W.keepIn K (.ref a.f_Tower_blocked_down) = true
  bd_Tower_blocked_down : Binds K a.d_Tower_blocked_down ["self"] []
  F_Tower_blocked_up : Fun K "blocked_up" "Tower.blocked_up" s_Tower_blocked_up a.f_Tower_blocked_up a.d_Tower_blocked_up
  k_Tower_blocked_up : PySem.W.keepIn K (.ref a.f_Tower_blocked_up) = true
  bd_Tower_blocked_up : Binds K a.d_Tower_blocked_up ["self"] []
  g__law_pick : mg "_law_pick" = some (.ref a.f_law_pick)
  F__law_pick : Fun K "_law_pick" "_law_pick" s_law_pick a.f_law_pick a.d_law_pick
  k__law_pick : PySem.W.keepIn K (.ref a.f_law_pick) = true
  bd__law_pick : Binds K a.d_law_pick ["state", "limit"] []
  g__law_is_integer : mg "_law_is_integer" = some (.ref a.f_law_is_integer)
  F__law_is_integer : Fun K "_law_is_integer" "_law_is_integer" s_law_is_integer a.f_law_is_integer a.d_law_is_integer
  k__law_is_integer : PySem.W.keepIn K (.ref a.f_law_is_integer) = true
  bd__law_is_integer : Binds K a.d_law_is_integer ["actual"] []
  g__law_word : mg "_law_word" = some (.ref a.f_law_word)
  F__law_word : Fun K "_law_word" "_law_word" s_law_word a.f_law_word a.d_law_word
  k__law_word : PySem.W.keepIn K (.ref a.f_law_word) = true
  bd__law_word : Binds K a.d_law_word ["state"] []
  g__law_fresh : mg "_law_fresh" = some (.ref a.f_law_fresh)
  F__law_fresh : Fun K "_law_fresh" "_law_fresh" s_law_fresh a.f_law_fresh a.d_law_fresh
  k__law_fresh : PySem.W.keepIn K (.ref a.f_law_fresh) = true
  bd__law_fresh : Binds K a.d_law_fresh [] []
  g__law_find : mg "_law_find" = some (.ref a.f_law_find)
  F__law_find : Fun K "_law_find" "_law_find" s_law_find a.f_law_find a.d_law_find
  k__law_find : PySem.W.keepIn K (.ref a.f_law_find) = true
  bd__law_find : Binds K a.d_law_find ["model", "number"] []
  g__law_get : mg "_law_get" = some (.ref a.f_law_get)
  F__law_get : Fun K "_law_get" "_law_get" s_law_get a.f_law_get a.d_law_get
  k__law_get : PySem.W.keepIn K (.ref a.f_law_get) = true
  bd__law_get : Binds K a.d_law_get ["model", "number"] []
  g__law_set : mg "_law_set" = some (.ref a.f_law_set)
  F__law_set : Fun K "_law_set" "_law_set" s_law_set a.f_law_set a.d_law_set
  k__law_set : PySem.W.keepIn K (.ref a.f_law_set) = true
  bd__law_set : Binds K a.d_law_set ["model", "number", "word"] []
  g__law_down : mg "_law_down" = some (.ref a.f_law_down)
  F__law_down : Fun K "_law_down" "_law_down" s_law_down a.f_law_down a.d_law_down
  k__law_down : PySem.W.keepIn K (.ref a.f_law_down) = true
  bd__law_down : Binds K a.d_law_down ["model"] []
  g__law_up : mg "_law_up" = some (.ref a.f_law_up)
  F__law_up : Fun K "_law_up" "_law_up" s_law_up a.f_law_up a.d_law_up
  k__law_up : PySem.W.keepIn K (.ref a.f_law_up) = true
  bd__law_up : Binds K a.d_law_up ["model"] []
  g__law_reads : mg "_law_reads" = some (.ref a.f_law_reads)
  F__law_reads : Fun K "_law_reads" "_law_reads" s_law_reads a.f_law_reads a.d_law_reads
  k__law_reads : PySem.W.keepIn K (.ref a.f_law_reads) = true
  bd__law_reads : Binds K a.d_law_reads ["tower", "model"] []
  g__law_deed : mg "_law_deed" = some (.ref a.f_law_deed)
  F__law_deed : Fun K "_law_deed" "_law_deed" s_law_deed a.f_law_deed a.d_law_deed
  k__law_deed : PySem.W.keepIn K (.ref a.f_law_deed) = true
  bd__law_deed : Binds K a.d_law_deed ["state", "tower", "model"] []
  g_law : mg "law" = some (.ref a.f_law)
  F_law : Fun K "law" "law" s_law a.f_law a.d_law
  k_law : PySem.W.keepIn K (.ref a.f_law) = true
  bd_law : Binds K a.d_law ["script"] []
  g_FIRST_IN : mg "FIRST_IN" = some (.int (24) a.t_FIRST_IN)
  g_FIRST_LOCAL : mg "FIRST_LOCAL" = some (.int (16) a.t_FIRST_LOCAL)
  g_FIRST_OUT : mg "FIRST_OUT" = some (.int (8) a.t_FIRST_OUT)
  b_bool : mg "bool" = none
  b_int : mg "int" = none
  b_isinstance : mg "isinstance" = none
  b_len : mg "len" = none
  b_range : mg "range" = none
  g_Tower : mg "Tower" = some (.ref a.C_Tower)
  cl_Tower : Cls K a.C_Tower
  mk_Tower : Mk K a.C_Tower a.f_Tower___init__
  n_Tower_depth : NoAttr K a.C_Tower "depth"
  n_Tower_spills : NoAttr K a.C_Tower "spills"
  n_Tower_fills : NoAttr K a.C_Tower "fills"
  n_Tower__view : NoAttr K a.C_Tower "_view"
  n_Tower__above : NoAttr K a.C_Tower "_above"
  m_Tower_read : Meth K a.C_Tower "read" a.f_Tower_read
  m_Tower_write : Meth K a.C_Tower "write" a.f_Tower_write
  m_Tower_shift_down : Meth K a.C_Tower "shift_down" a.f_Tower_shift_down
  m_Tower_shift_up : Meth K a.C_Tower "shift_up" a.f_Tower_shift_up
  m_Tower_blocked_down : Meth K a.C_Tower "blocked_down" a.f_Tower_blocked_down
  m_Tower_blocked_up : Meth K a.C_Tower "blocked_up" a.f_Tower_blocked_up
/-! ### heaps that turn at some places alone -/
def Frm (S : List Addr) (H H' : Hp) : Prop := ∀ b o, H b = some o → b ∉ S → H' b = some o
theorem Frm.refl {S : List Addr} {H : Hp} : Frm S H H := fun _ _ e _ => e
theorem Frm.trans {S : List Addr} {H H1 H2 : Hp} (x : Frm S H H1) (y : Frm S H1 H2) : Frm S H H2 := fun b o e n => y b o (x b o e n) n
theorem Frm.new {S : List Addr} {H H1 : Hp} {p : Addr} {o : HO} (x : Frm S H H1) (n : H1 p = none) : Frm S H (upd H1 p o) := fun b u e m => by
  rw [upd_ne (ne_of_none (x b u e m) n)]; exact x b u e m
theorem Frm.put {S : List Addr} {H H1 : Hp} {p : Addr} {o : HO} (x : Frm S H H1) (m : p ∈ S) : Frm S H (upd H1 p o) := fun b u e h => by
  rw [upd_ne (fun z => h (by rw [z]; exact m))]; exact x b u e h
theorem Frm.mono {S S' : List Addr} {H H1 : Hp} (x : Frm S H H1) (h : ∀ b ∈ S, b ∈ S') : Frm S' H H1 := fun b u e n => x b u e fun z => n (h b z)
theorem Frm.of {S : List Addr} {H H1 : Hp} (x : Same H H1) : Frm S H H1 := fun b u e _ => x b u e
theorem Frm.same {H H1 : Hp} (x : Frm [] H H1) : Same H H1 := fun b u e => x b u e (by simp)
/-- a list that is to be read, whatever turns at b -/
def Apt (K : PySem.W.Frag) (sa : Addr) (xs : List V) (b : Addr) : Prop := b = sa → ∀ H', SqL K H' sa xs
theorem apt_new {K : PySem.W.Frag} {H : Hp} {sa b : Addr} {xs : List V} (h : SqL K H sa xs) (n : H b = none) : Apt K sa xs b := fun e H' => by
  subst e
  rcases h with (h | ⟨o, h⟩) | h
  · rw [n] at h; cases h
  · rw [n] at h; cases h
  · exact .inr h
theorem sq_frm {K : PySem.W.Frag} {S : List Addr} {H H' : Hp} {sa : Addr} {xs : List V} (h : SqL K H sa xs) (f : Frm S H H') (a : ∀ b ∈ S, Apt K sa xs b) : SqL K H' sa xs := by
  by_cases c : sa ∈ S
  · exact a sa c rfl H'
  · rcases h with (h | ⟨o, h⟩) | h
    · exact .inl (.inl (f _ _ h c))
    · exact .inl (.inr ⟨o, f _ _ h c⟩)
    · exact .inr h
/-! ### the draws -/
structure StP (K : PySem.W.Frag) (H : Hp) (st sa : Addr) (ns : List Int) : Prop where
  at' : ∃ i d n : Int, 0 ≤ i ∧ H st = some (.lst [.ref sa, .int i, .int d, .int n])
  sq : SqL K H sa (ns.map V.int)
  ap : Apt K sa (ns.map V.int) st
theorem StP.frm {K : PySem.W.Frag} {S : List Addr} {H H' : Hp} {st sa : Addr} {ns : List Int} (h : StP K H st sa ns) (f : Frm S H H') (n : st ∉ S) (a : ∀ b ∈ S, Apt K sa (ns.map V.int) b) : StP K H' st sa ns := by
  obtain ⟨i, d, k, z, e⟩ := h.at'
  exact ⟨⟨i, d, k, z, f _ _ e n⟩, sq_frm h.sq f a, h.ap⟩
theorem StP.same {K : PySem.W.Frag} {H H' : Hp} {st sa : Addr} {ns : List Int} (h : StP K H st sa ns) (f : Same H H') : StP K H' st sa ns := h.frm (S := []) (fun b o e _ => f b o e) (by simp) (by simp)
theorem StP.put {K : PySem.W.Frag} {H : Hp} {st sa : Addr} {ns : List Int} {i d n : Int} (h : StP K H st sa ns) (z : 0 ≤ i) : StP K (upd H st (.lst [.ref sa, .int i, .int d, .int n])) st sa ns :=
  ⟨⟨i, d, n, z, upd_same⟩, sq_frm h.sq (Frm.put (S := [st]) Frm.refl (by simp)) (fun b hb => by rw [List.mem_singleton.mp hb]; exact h.ap), h.ap⟩
def spPick (K : PySem.W.Frag) : Sp := fun vs H Q _ => ∃ (st sa : Addr) (ns : List Int) (m : Int), vs = [.ref st, .int m] ∧ StP K H st sa ns ∧ 0 < m ∧ m < 2 ^ 62 ∧ ∀ (v : Int) (H' : Hp), 0 ≤ v → v < m → StP K H' st sa ns → Frm [st] H H' → Q (.int v) H'
section
variable {P : Program} {w : World} {K : PySem.W.Frag} {mg : Str → Option Value} {base : Heap} {a : Ad}
theorem ok_law_pick (T : Txt K mg a) : FnOk P w K mg base CX0 1 a.f_law_pick a.d_law_pick ["state", "limit"] (spPick K) := by
  refine T.F__law_pick.ok sc_law_pick (fun vs H Q E h => ?_) (fun cdv A outer s H vs Q E hr h => ?_)
  · obtain ⟨_, _, _, _, rfl, _⟩ := h; rfl
  · obtain ⟨st, sa, ns, m, rfl, S, hm, hm2, q⟩ := h
    have hdv : ∀ i, CDivW i m := fun i => wide_div (b := 62) hm (by omega) (by decide) (by decide)
    have hdv7 : ∀ i, CDivW i 7 := fun i => wide_div (b := 62) (by decide) (by decide) (by decide) (by decide)
    obtain ⟨i, d, n, i0, h1⟩ := S.at'
    refine ⟨_, (pss_cons (ps_asg (pe_op op_add (pe_ix ix_list (pv 0) pe_int (fun _ _ => rfl)) pe_int) (pg_sub (pv 0) pe_int set_list))
      (pss_cons (ps_if (pt_cmpR op_gt (pe_ix ix_list (pv 0) pe_int (fun _ _ => rfl)) pe_int (nomark _)) (pss_cons (ps_set (i := 2) sc_law_pick.nd rfl (Or.inl rfl) (pe_op op_mod (pe_callTy call_int1 (by rfl) T.b_int (by decide +kernel) (pa_cons (pe_ix ix_list (pv 0) pe_int (fun _ _ => rfl)) pa_nil)) (pv 1)))
      (pss_cons (ps_asg (pe_op op_fdivW (pe_ix ix_list (pv 0) pe_int (fun _ _ => rfl)) (pv 1)) (pg_sub (pv 0) pe_int set_list))
      (pss_one (ps_ret (pv 2))))) pss_nil)
      (pss_cons (ps_set (i := 3) sc_law_pick.nd rfl (Or.inl rfl) pe_int)
      (C8.pss_cut (ps_if (pt_cmpR op_lt (pe_ix ix_list (pv 0) pe_int (fun _ _ => rfl)) (pe_callB call_len_seq (by rfl) T.b_len (by decide +kernel) (pa_cons (pe_ix ix_list (pv 0) pe_int (fun _ _ => rfl)) pa_nil)) (nomark _)) (pss_one (ps_set (i := 3) sc_law_pick.nd rfl (Or.inl rfl) (pe_ix ix_list (pe_ix ix_list (pv 0) pe_int (fun _ _ => rfl)) (pe_ix ix_list (pv 0) pe_int (fun _ _ => rfl)) (fun _ _ => rfl)))) pss_nil)
      (pss_cons (ps_asg (pe_op op_add (pe_ix ix_list (pv 0) pe_int (fun _ _ => rfl)) pe_int) (pg_sub (pv 0) pe_int set_list))
      (pss_cons (ps_if (pt_cmpR op_ge (pv 3) (pe_op op_pow pe_int pe_int) (nomark _)) (pss_cons (ps_asg (pe_op op_fdivW (pv 3) (pv 1)) (pg_sub (pv 0) pe_int set_list))
      (pss_one (ps_ret (pe_op op_mod (pe_callTy call_int1 (by rfl) T.b_int (by decide +kernel) (pa_cons (pv 3) pa_nil)) (pv 1))))) pss_nil)
      (pss_cons (ps_set (i := 4) sc_law_pick.nd rfl (Or.inl rfl) (pe_op op_mod (pe_callTy call_int1 (by rfl) T.b_int (by decide +kernel) (pa_cons (pe_op op_add (pe_op op_mul (pe_op op_mod (pe_callTy call_int1 (by rfl) T.b_int (by decide +kernel) (pa_cons (pe_op op_add (pe_op op_add (pe_op op_mul (pv 3) pe_int) (pe_op op_mul (pe_ix ix_list (pv 0) pe_int (fun _ _ => rfl)) pe_int)) pe_int) pa_nil)) pe_int) pe_int) (pe_ix ix_list (pv 0) pe_int (fun _ _ => rfl))) pa_nil)) pe_int))
      (pss_one (ps_ret (pe_op op_mod (pe_callTy call_int1 (by rfl) T.b_int (by decide +kernel) (pa_cons (pe_op op_fdivW (pv 4) pe_int) pa_nil)) (pv 1))))))))))), ?_⟩
    refine ⟨_, rfl, _, _, _, _, rfl, rfl, SqL.of h1, rfl, _, _, rfl, rfl, _, rfl, _, _, _, _, rfl, rfl, h1, rfl, ?_⟩
    have S1 := S.put (d := d) (n := n + 1) i0
    have f1 : Frm [st] H (upd H st (.lst [.ref sa, .int i, .int d, .int (n + 1)])) := Frm.put Frm.refl (by simp)
    have e1 : upd H st (.lst [.ref sa, .int i, .int d, .int (n + 1)]) st = some (.lst [.ref sa, .int i, .int d, .int (n + 1)]) := upd_same
    have nu : ∀ {H2 : Hp} {o : HO}, Frm [st] H H2 → Frm [st] H (upd H2 st o) := fun f => f.put (by simp)
    refine ⟨_, rfl, _, _, _, _, rfl, rfl, SqL.of upd_same, rfl, _, _, rfl, rfl, _, rfl, ite3 (fun c1 => ?_) (fun c1 => ?_)⟩
    · refine ⟨_, rfl, _, _, _, _, rfl, rfl, SqL.of upd_same, rfl, .inl ⟨_, rfl, _, rfl, _, _, rfl, rfl, hm, ?_⟩⟩
      refine ⟨_, rfl, _, _, _, _, rfl, rfl, SqL.of upd_same, rfl, _, rfl, _, _, rfl, rfl, hdv _, _, rfl, _, _, _, _, rfl, rfl, upd_same, rfl, ?_⟩
      exact ⟨_, rfl, q _ _ (Int.emod_nonneg _ (by omega)) (Int.emod_lt_of_pos _ hm) (S1.put i0) (nu f1)⟩
    refine ⟨fun σ H2 => ∃ z : Int, σ = [some (.ref st), some (.int m), none, some (.int z), none] ∧ H2 st = some (.lst [.ref sa, .int i, .int d, .int (n + 1)]) ∧ StP K H2 st sa ns ∧ Frm [st] H H2, ?_, ?_⟩
    · refine ⟨_, rfl, _, _, _, _, rfl, rfl, SqL.of upd_same, rfl, _, rfl, _, _, _, _, rfl, rfl, SqL.of upd_same, rfl, _, _, rfl, .inl S1.sq, _, _, rfl, rfl, _, rfl, ite3 (fun c2 => ?_) (fun c2 => ?_)⟩
      · have hlt : i.toNat < ns.length := by
          have := of_decide_eq_true c2
          simp at this
          omega
        refine ⟨_, rfl, _, _, _, _, rfl, rfl, SqL.of upd_same, rfl, _, rfl, _, _, _, _, rfl, rfl, SqL.of upd_same, rfl, _, _, _, .int (ns[i.toNat]), rfl, rfl, S1.sq, ?_, ?_⟩
        · have hh := atI_nat (j := i.toNat) (xs := ns.map V.int) (v := V.int ns[i.toNat]) (by simp [hlt])
          rwa [show ((i.toNat : Nat) : Int) = i by omega] at hh
        · exact ⟨_, rfl, upd_same, S1, f1⟩
      · exact ⟨0, rfl, upd_same, S1, f1⟩
    · rintro σ H2 ⟨z, rfl, e2, S2, f2⟩
      refine ⟨_, rfl, _, _, _, _, rfl, rfl, SqL.of e2, rfl, _, _, rfl, rfl, _, rfl, _, _, _, _, rfl, rfl, e2, rfl, ?_⟩
      have S3 := S2.put (i := i + 1) (d := d) (n := n + 1) (by omega)
      refine ⟨_, rfl, _, _, rfl, rfl, ⟨by decide, by decide, by decide⟩, _, _, rfl, rfl, _, rfl, ite3 (fun c3 => ?_) (fun c3 => ?_)⟩
      · refine ⟨_, rfl, _, rfl, _, _, rfl, rfl, hdv _, _, rfl, _, _, _, _, rfl, rfl, upd_same, rfl, ?_⟩
        refine ⟨_, rfl, .inl ⟨_, rfl, _, rfl, _, _, rfl, rfl, hm, ?_⟩⟩
        exact q _ _ (Int.emod_nonneg _ (by omega)) (Int.emod_lt_of_pos _ hm) (S3.put (by omega)) (nu (nu f2))
      · refine ⟨_, rfl, _, _, rfl, rfl, .inr (by decide), _, rfl, _, _, _, _, rfl, rfl, SqL.of upd_same, rfl, _, _, rfl, rfl, .inr (by decide), _, _, rfl, rfl, _, _, rfl, rfl, .inl ⟨_, rfl, _, _, rfl, rfl, (by show (0 : Int) < 2147483647; decide), _, _, rfl, rfl, .inr (by decide), _, rfl, _, _, _, _, rfl, rfl, SqL.of upd_same, rfl, _, _, rfl, rfl, .inl ⟨_, rfl, _, _, rfl, rfl, (by show (0 : Int) < 2147483629; decide), ?_⟩⟩⟩
        refine ⟨_, rfl, _, _, rfl, rfl, hdv7 _, .inl ⟨_, rfl, _, rfl, _, _, rfl, rfl, hm, ?_⟩⟩
        exact q _ _ (Int.emod_nonneg _ (by omega)) (Int.emod_lt_of_pos _ hm) S3 (nu f2)
end

/-! ### tags: who owns an address (owner, sort, number) -/
abbrev Tg : Type := Addr → Nat × Nat × Nat
def tgN (τ : Tg) (p : Addr) (x : Nat × Nat × Nat) : Tg := fun b => if b = p then x else τ b
theorem tg_same {τ : Tg} {p : Addr} {x : Nat × Nat × Nat} : tgN τ p x p = x := if_pos rfl
theorem tg_ne {τ : Tg} {p b : Addr} {x : Nat × Nat × Nat} (h : b ≠ p) : tgN τ p x b = τ b := if_neg h
theorem ne_tag {τ : Tg} {p q : Addr} {x y : Nat × Nat × Nat} (h1 : τ p = x) (h2 : τ q = y) (h : x ≠ y) : p ≠ q := fun e => h (by rw [← h1, ← h2, e])
/-- a step that writes at the owners S alone -/
structure Stp (τ τ' : Tg) (S : List Nat) (H H' : Hp) : Prop where
  fr : ∀ b o, H b = some o → (τ b).1 ∉ S → H' b = some o
  ag : ∀ b, H b ≠ none → τ' b = τ b
  al : ∀ b, H b ≠ none → H' b ≠ none
theorem some_ne {H : Hp} {b : Addr} {o : HO} (h : H b = some o) : H b ≠ none := by rw [h]; exact fun z => nomatch z
namespace Stp
variable {τ τ' τ2 : Tg} {S S' : List Nat} {H H' H2 : Hp}
theorem refl : Stp τ τ S H H := ⟨fun _ _ h _ => h, fun _ _ => rfl, fun _ h => h⟩
theorem mono (h : Stp τ τ' S H H') (i : ∀ x ∈ S, x ∈ S') : Stp τ τ' S' H H' := ⟨fun b o e n => h.fr b o e fun m => n (i _ m), h.ag, h.al⟩
theorem tr (x : Stp τ τ' S H H') (y : Stp τ' τ2 S H' H2) : Stp τ τ2 S H H2 :=
  ⟨fun b o e n => y.fr b o (x.fr b o e n) (by rw [x.ag b (some_ne e)]; exact n), fun b e => (y.ag b (x.al b e)).trans (x.ag b e), fun b e => y.al b (x.al b e)⟩
theorem same (h : Same H H') : Stp τ τ S H H' := ⟨fun b o e _ => h b o e, fun _ _ => rfl, fun b e => by
  cases z : H b with
  | none => exact absurd z e
  | some o => exact some_ne (h b o z)⟩
theorem new {p : Addr} {o : HO} {x : Nat × Nat × Nat} (h : Stp τ τ' S H H') (n : H' p = none) : Stp τ (tgN τ' p x) S H (upd H' p o) :=
  h.tr ⟨fun b u e _ => by rw [upd_ne (ne_of_none e n)]; exact e, fun b e => tg_ne fun z => e (by rw [z]; exact n), fun b e => by
    rw [upd_ne fun z => e (by rw [z]; exact n)]; exact e⟩
theorem put {p : Addr} {o : HO} (h : Stp τ τ' S H H') (m : (τ' p).1 ∈ S) : Stp τ τ' S H (upd H' p o) :=
  h.tr ⟨fun b u e n => by rw [upd_ne fun z => n (by rw [z]; exact m)]; exact e, fun _ _ => rfl, fun b e => by
    by_cases z : b = p
    · rw [z, upd_same]; exact fun z => nomatch z
    · rw [upd_ne z]; exact e⟩
theorem at_ {b : Addr} {o : HO} {x : Nat × Nat × Nat} (h : Stp τ τ' S H H') (e : H b = some o) (t : τ b = x) (n : x.1 ∉ S) : H' b = some o ∧ τ' b = x :=
  ⟨h.fr b o e (by rw [t]; exact n), (h.ag b (some_ne e)).trans t⟩
end Stp
/-- H p = o, with its tag -/
def At (τ : Tg) (H : Hp) (p : Addr) (o : HO) (x : Nat × Nat × Nat) : Prop := H p = some o ∧ τ p = x
namespace At
variable {τ τ' : Tg} {S : List Nat} {H H' : Hp} {p q : Addr} {o u : HO} {x y : Nat × Nat × Nat}
theorem st (h : At τ H p o x) (s : Stp τ τ' S H H') (n : x.1 ∉ S) : At τ' H' p o x := s.at_ h.1 h.2 n
theorem put (h : At τ H p o x) (t : τ q = y) (n : x ≠ y) : At τ (upd H q u) p o x := ⟨by rw [upd_ne (ne_tag h.2 t n)]; exact h.1, h.2⟩
theorem set (t : τ p = x) : At τ (upd H p o) p o x := ⟨upd_same, t⟩
theorem new (h : At τ H p o x) (n : H q = none) : At (tgN τ q y) (upd H q u) p o x := ⟨by rw [upd_ne (ne_of_none h.1 n)]; exact h.1, (tg_ne (ne_of_none h.1 n)).trans h.2⟩
theorem mk : At (tgN τ p x) (upd H p o) p o x := ⟨upd_same, tg_same⟩
theorem same (h : At τ H p o x) (s : Same H H') : At τ H' p o x := ⟨s _ _ h.1, h.2⟩
end At
/-! ### the draws' state under tags -/
structure StG (K : PySem.W.Frag) (τ : Tg) (H : Hp) (st sa : Addr) (ns : List Int) : Prop where
  p : StP K H st sa ns
  ts : τ st = (4, 0, 0)
  sg : (∀ H', SqL K H' sa (ns.map V.int)) ∨ (H sa ≠ none ∧ (τ sa).1 = 6)
namespace StG
variable {K : PySem.W.Frag} {τ τ' : Tg} {S : List Nat} {H H' : Hp} {st sa : Addr} {ns : List Int}
theorem step (h : StG K τ H st sa ns) (s : Stp τ τ' S H H') (n4 : 4 ∉ S) (n6 : 6 ∉ S) : StG K τ' H' st sa ns := by
  obtain ⟨i, d, k, z, e⟩ := h.p.at'
  obtain ⟨e', t'⟩ := s.at_ e h.ts n4
  refine ⟨⟨⟨i, d, k, z, e'⟩, ?_, h.p.ap⟩, t', ?_⟩
  · rcases h.sg with g | ⟨g1, g2⟩
    · exact g H'
    · rcases h.p.sq with (q | ⟨o, q⟩) | q
      · exact .inl (.inl (s.fr _ _ q (by rw [g2]; exact n6)))
      · exact .inl (.inr ⟨o, s.fr _ _ q (by rw [g2]; exact n6)⟩)
      · exact .inr q
  · rcases h.sg with g | ⟨g1, g2⟩
    · exact .inl g
    · exact .inr ⟨s.al _ g1, by rw [s.ag _ g1]; exact g2⟩
theorem pick (h : StG K τ H st sa ns) (S' : StP K H' st sa ns) (f : Frm [st] H H') : StG K τ H' st sa ns ∧ Stp τ τ [4] H H' := by
  have al : ∀ b, H b ≠ none → H' b ≠ none := fun b e => by
    by_cases z : b = st
    · obtain ⟨_, _, _, _, e'⟩ := S'.at'
      rw [z]; exact some_ne e'
    · cases q : H b with
      | none => exact absurd q e
      | some o => exact some_ne (f b o q (by simpa using z))
  refine ⟨⟨S', h.ts, ?_⟩, ⟨fun b o e n => f b o e (by
    intro m
    rw [List.mem_singleton.mp m, h.ts] at n
    exact n (List.mem_singleton.mpr rfl)), fun _ _ => rfl, al⟩⟩
  rcases h.sg with g | ⟨g1, g2⟩
  · exact .inl g
  · exact .inr ⟨al _ g1, g2⟩
theorem first {p : Addr} (h : SqL K H sa (ns.map V.int)) (n : H p = none) : StG K (tgN (fun _ => (6, 0, 0)) p (4, 0, 0)) (upd H p (.lst [.ref sa, .int 0, .int 0, .int 0])) p sa ns := by
  have s0 := sN (Same.refl H) n (o := .lst [V.ref sa, V.int 0, V.int 0, V.int 0])
  refine ⟨⟨⟨0, 0, 0, by decide, upd_same⟩, s0.seq h, apt_new h n⟩, tg_same, ?_⟩
  rcases h with (q | ⟨o, q⟩) | q
  · exact .inr ⟨some_ne (s0 _ _ q), by rw [tg_ne (ne_of_none q n)]⟩
  · exact .inr ⟨some_ne (s0 _ _ q), by rw [tg_ne (ne_of_none q n)]⟩
  · exact .inl fun _ => .inr q
end StG
def spPickG (K : PySem.W.Frag) : Sp := fun vs H Q _ => ∃ (τ : Tg) (st sa : Addr) (ns : List Int) (m : Int), vs = [.ref st, .int m] ∧ StG K τ H st sa ns ∧ 0 < m ∧ m < 2 ^ 62 ∧ ∀ (v : Int) (H' : Hp), 0 ≤ v → v < m → StG K τ H' st sa ns → Stp τ τ [4] H H' → Q (.int v) H'
theorem ok_pickG {P : Program} {w : World} {K : PySem.W.Frag} {mg : Str → Option Value} {base : Heap} {a : Ad} (T : Txt K mg a) : FnOk P w K mg base CX0 1 a.f_law_pick a.d_law_pick ["state", "limit"] (spPickG K) :=
  FnOk.imp (ok_law_pick T) fun vs H Q E ⟨τ, st, sa, ns, m, e, S, h1, h2, q⟩ => ⟨st, sa, ns, m, e, S.p, h1, h2, fun v H' v0 v1 S' f => q v H' v0 v1 (S.pick S' f).1 (S.pick S' f).2⟩
theorem Stp.sameN {τ τ' : Tg} {S : List Nat} {H H1 H2 : Hp} {p : Addr} {x : Nat × Nat × Nat} (h : Stp τ τ' S H H1) (s : Same H1 H2) (n : H1 p = none) : Stp τ (tgN τ' p x) S H H2 :=
  h.tr ⟨fun b o e _ => s b o e, fun b e => tg_ne fun z => e (by rw [z]; exact n), (Stp.same (τ := τ) (S := S) s).al⟩
theorem At.sameN {τ : Tg} {H H' : Hp} {p q : Addr} {o : HO} {x y : Nat × Nat × Nat} (h : At τ H p o x) (s : Same H H') (n : H q = none) : At (tgN τ q y) H' p o x := ⟨s _ _ h.1, (tg_ne (ne_of_none h.1 n)).trans h.2⟩
theorem At.in {τ : Tg} {H : Hp} {p : Addr} {o : HO} {x : Nat × Nat × Nat} (e : H p = some o) : At (tgN τ p x) H p o x := ⟨e, tg_same⟩
/-! ### slices -/
theorem cut_lo (xs : List V) (a : Nat) : cutV xs (some (a : Int)) none = xs.drop a := by
  unfold cutV
  rw [HT.sIx_nat, HT.sIx_none]
  by_cases h : a ≤ xs.length
  · rw [Nat.min_eq_left h, List.take_of_length_le (by rw [List.length_drop]; omega)]
  · rw [Nat.min_eq_right (by omega), List.drop_eq_nil_of_le (Nat.le_refl _), List.drop_eq_nil_of_le (show xs.length ≤ a by omega), List.take_nil]
theorem cut_hi (xs : List V) (b : Nat) : cutV xs none (some (b : Int)) = xs.take b := by
  unfold cutV
  rw [HT.sIx_nat, HT.sIx_none, List.drop_zero, Nat.sub_zero]
  by_cases h : b ≤ xs.length
  · rw [Nat.min_eq_left h]
  · rw [Nat.min_eq_right (by omega), List.take_of_length_le (Nat.le_refl _), List.take_of_length_le (show xs.length ≤ b by omega)]
theorem cut_mid (xs : List V) (a b : Nat) (h : a ≤ b) (h2 : b ≤ xs.length) : cutV xs (some (a : Int)) (some (b : Int)) = (xs.drop a).take (b - a) := by
  unfold cutV
  rw [HT.sIx_nat, HT.sIx_nat, Nat.min_eq_left (show a ≤ xs.length by omega), Nat.min_eq_left h2]
theorem rep_int (n : Nat) : (List.replicate n [V.int 0]).flatten = (List.replicate n (0 : Int)).map V.int := by
  induction n with
  | zero => rfl
  | succ n ih => rw [List.replicate_succ, List.flatten_cons, ih, List.replicate_succ]; rfl

theorem twf_e0_1 : (("depth" : Str) == "spills") = false := by decide +kernel
theorem twf_q0_1 : (("depth" : Str) = "spills") = False := by simp only [eq_iff_iff, iff_false]; decide +kernel
theorem twf_e0_2 : (("depth" : Str) == "fills") = false := by decide +kernel
theorem twf_q0_2 : (("depth" : Str) = "fills") = False := by simp only [eq_iff_iff, iff_false]; decide +kernel
theorem twf_e0_3 : (("depth" : Str) == "_view") = false := by decide +kernel
theorem twf_q0_3 : (("depth" : Str) = "_view") = False := by simp only [eq_iff_iff, iff_false]; decide +kernel
theorem twf_e0_4 : (("depth" : Str) == "_above") = false := by decide +kernel
theorem twf_q0_4 : (("depth" : Str) = "_above") = False := by simp only [eq_iff_iff, iff_false]; decide +kernel
theorem twf_e1_0 : (("spills" : Str) == "depth") = false := by decide +kernel
theorem twf_q1_0 : (("spills" : Str) = "depth") = False := by simp only [eq_iff_iff, iff_false]; decide +kernel
theorem twf_e1_2 : (("spills" : Str) == "fills") = false := by decide +kernel
theorem twf_q1_2 : (("spills" : Str) = "fills") = False := by simp only [eq_iff_iff, iff_false]; decide +kernel
theorem twf_e1_3 : (("spills" : Str) == "_view") = false := by decide +kernel
theorem twf_q1_3 : (("spills" : Str) = "_view") = False := by simp only [eq_iff_iff, iff_false]; decide +kernel
theorem twf_e1_4 : (("spills" : Str) == "_above") = false := by decide +kernel
theorem twf_q1_4 : (("spills" : Str) = "_above") = False := by simp only [eq_iff_iff, iff_false]; decide +kernel
theorem twf_e2_0 : (("fills" : Str) == "depth") = false := by decide +kernel
theorem twf_q2_0 : (("fills" : Str) = "depth") = False := by simp only [eq_iff_iff, iff_false]; decide +kernel
theorem twf_e2_1 : (("fills" : Str) == "spills") = false := by decide +kernel
theorem twf_q2_1 : (("fills" : Str) = "spills") = False := by simp only [eq_iff_iff, iff_false]; decide +kernel
theorem twf_e2_3 : (("fills" : Str) == "_view") = false := by decide +kernel
theorem twf_q2_3 : (("fills" : Str) = "_view") = False := by simp only [eq_iff_iff, iff_false]; decide +kernel
theorem twf_e2_4 : (("fills" : Str) == "_above") = false := by decide +kernel
theorem twf_q2_4 : (("fills" : Str) = "_above") = False := by simp only [eq_iff_iff, iff_false]; decide +kernel
theorem twf_e3_0 : (("_view" : Str) == "depth") = false := by decide +kernel
theorem twf_q3_0 : (("_view" : Str) = "depth") = False := by simp only [eq_iff_iff, iff_false]; decide +kernel
theorem twf_e3_1 : (("_view" : Str) == "spills") = false := by decide +kernel
theorem twf_q3_1 : (("_view" : Str) = "spills") = False := by simp only [eq_iff_iff, iff_false]; decide +kernel
theorem twf_e3_2 : (("_view" : Str) == "fills") = false := by decide +kernel
theorem twf_q3_2 : (("_view" : Str) = "fills") = False := by simp only [eq_iff_iff, iff_false]; decide +kernel
theorem twf_e3_4 : (("_view" : Str) == "_above") = false := by decide +kernel
theorem twf_q3_4 : (("_view" : Str) = "_above") = False := by simp only [eq_iff_iff, iff_false]; decide +kernel
theorem twf_e4_0 : (("_above" : Str) == "depth") = false := by decide +kernel
theorem twf_q4_0 : (("_above" : Str) = "depth") = False := by simp only [eq_iff_iff, iff_false]; decide +kernel
theorem twf_e4_1 : (("_above" : Str) == "spills") = false := by decide +kernel
theorem twf_q4_1 : (("_above" : Str) = "spills") = False := by simp only [eq_iff_iff, iff_false]; decide +kernel
theorem twf_e4_2 : (("_above" : Str) == "fills") = false := by decide +kernel
theorem twf_q4_2 : (("_above" : Str) = "fills") = False := by simp only [eq_iff_iff, iff_false]; decide +kernel
theorem twf_e4_3 : (("_above" : Str) == "_view") = false := by decide +kernel
theorem twf_q4_3 : (("_above" : Str) = "_view") = False := by simp only [eq_iff_iff, iff_false]; decide +kernel
def twf (x0 : Int) (x1 : Int) (x2 : Int) (x3 : Addr) (x4 : Addr) : List (Str × V) := [("depth", .int x0), ("spills", .int x1), ("fills", .int x2), ("_view", .ref x3), ("_above", .ref x4)]
theorem twf_depth (x0 : Int) (x1 : Int) (x2 : Int) (x3 : Addr) (x4 : Addr) : (twf x0 x1 x2 x3 x4).lookup ("depth" : Str) = some (V.int x0) := by simp [twf, List.lookup, twf]
theorem twf_spills (x0 : Int) (x1 : Int) (x2 : Int) (x3 : Addr) (x4 : Addr) : (twf x0 x1 x2 x3 x4).lookup ("spills" : Str) = some (V.int x1) := by simp [twf, List.lookup, twf_e1_0]
theorem twf_fills (x0 : Int) (x1 : Int) (x2 : Int) (x3 : Addr) (x4 : Addr) : (twf x0 x1 x2 x3 x4).lookup ("fills" : Str) = some (V.int x2) := by simp [twf, List.lookup, twf_e2_0, twf_e2_1]
theorem twf__view (x0 : Int) (x1 : Int) (x2 : Int) (x3 : Addr) (x4 : Addr) : (twf x0 x1 x2 x3 x4).lookup ("_view" : Str) = some (V.ref x3) := by simp [twf, List.lookup, twf_e3_0, twf_e3_1, twf_e3_2]
theorem twf__above (x0 : Int) (x1 : Int) (x2 : Int) (x3 : Addr) (x4 : Addr) : (twf x0 x1 x2 x3 x4).lookup ("_above" : Str) = some (V.ref x4) := by simp [twf, List.lookup, twf_e4_0, twf_e4_1, twf_e4_2, twf_e4_3]
theorem twf_mread_0 : (("read" : Str) == "depth") = false := by decide +kernel
theorem twf_mread_1 : (("read" : Str) == "spills") = false := by decide +kernel
theorem twf_mread_2 : (("read" : Str) == "fills") = false := by decide +kernel
theorem twf_mread_3 : (("read" : Str) == "_view") = false := by decide +kernel
theorem twf_mread_4 : (("read" : Str) == "_above") = false := by decide +kernel
theorem twf_no_read (x0 : Int) (x1 : Int) (x2 : Int) (x3 : Addr) (x4 : Addr) : (twf x0 x1 x2 x3 x4).lookup ("read" : Str) = none := by simp [twf, List.lookup, twf_mread_0, twf_mread_1, twf_mread_2, twf_mread_3, twf_mread_4]
theorem twf_mwrite_0 : (("write" : Str) == "depth") = false := by decide +kernel
theorem twf_mwrite_1 : (("write" : Str) == "spills") = false := by decide +kernel
theorem twf_mwrite_2 : (("write" : Str) == "fills") = false := by decide +kernel
theorem twf_mwrite_3 : (("write" : Str) == "_view") = false := by decide +kernel
theorem twf_mwrite_4 : (("write" : Str) == "_above") = false := by decide +kernel
theorem twf_no_write (x0 : Int) (x1 : Int) (x2 : Int) (x3 : Addr) (x4 : Addr) : (twf x0 x1 x2 x3 x4).lookup ("write" : Str) = none := by simp [twf, List.lookup, twf_mwrite_0, twf_mwrite_1, twf_mwrite_2, twf_mwrite_3, twf_mwrite_4]
theorem twf_mshift_down_0 : (("shift_down" : Str) == "depth") = false := by decide +kernel
theorem twf_mshift_down_1 : (("shift_down" : Str) == "spills") = false := by decide +kernel
theorem twf_mshift_down_2 : (("shift_down" : Str) == "fills") = false := by decide +kernel
theorem twf_mshift_down_3 : (("shift_down" : Str) == "_view") = false := by decide +kernel
theorem twf_mshift_down_4 : (("shift_down" : Str) == "_above") = false := by decide +kernel
theorem twf_no_shift_down (x0 : Int) (x1 : Int) (x2 : Int) (x3 : Addr) (x4 : Addr) : (twf x0 x1 x2 x3 x4).lookup ("shift_down" : Str) = none := by simp [twf, List.lookup, twf_mshift_down_0, twf_mshift_down_1, twf_mshift_down_2, twf_mshift_down_3, twf_mshift_down_4]
theorem twf_mshift_up_0 : (("shift_up" : Str) == "depth") = false := by decide +kernel
theorem twf_mshift_up_1 : (("shift_up" : Str) == "spills") = false := by decide +kernel
theorem twf_mshift_up_2 : (("shift_up" : Str) == "fills") = false := by decide +kernel
theorem twf_mshift_up_3 : (("shift_up" : Str) == "_view") = false := by decide +kernel
theorem twf_mshift_up_4 : (("shift_up" : Str) == "_above") = false := by decide +kernel
theorem twf_no_shift_up (x0 : Int) (x1 : Int) (x2 : Int) (x3 : Addr) (x4 : Addr) : (twf x0 x1 x2 x3 x4).lookup ("shift_up" : Str) = none := by simp [twf, List.lookup, twf_mshift_up_0, twf_mshift_up_1, twf_mshift_up_2, twf_mshift_up_3, twf_mshift_up_4]
theorem twf_mblocked_down_0 : (("blocked_down" : Str) == "depth") = false := by decide +kernel
theorem twf_mblocked_down_1 : (("blocked_down" : Str) == "spills") = false := by decide +kernel
theorem twf_mblocked_down_2 : (("blocked_down" : Str) == "fills") = false := by decide +kernel
theorem twf_mblocked_down_3 : (("blocked_down" : Str) == "_view") = false := by decide +kernel
theorem twf_mblocked_down_4 : (("blocked_down" : Str) == "_above") = false := by decide +kernel
theorem twf_no_blocked_down (x0 : Int) (x1 : Int) (x2 : Int) (x3 : Addr) (x4 : Addr) : (twf x0 x1 x2 x3 x4).lookup ("blocked_down" : Str) = none := by simp [twf, List.lookup, twf_mblocked_down_0, twf_mblocked_down_1, twf_mblocked_down_2, twf_mblocked_down_3, twf_mblocked_down_4]
theorem twf_mblocked_up_0 : (("blocked_up" : Str) == "depth") = false := by decide +kernel
theorem twf_mblocked_up_1 : (("blocked_up" : Str) == "spills") = false := by decide +kernel
theorem twf_mblocked_up_2 : (("blocked_up" : Str) == "fills") = false := by decide +kernel
theorem twf_mblocked_up_3 : (("blocked_up" : Str) == "_view") = false := by decide +kernel
theorem twf_mblocked_up_4 : (("blocked_up" : Str) == "_above") = false := by decide +kernel
theorem twf_no_blocked_up (x0 : Int) (x1 : Int) (x2 : Int) (x3 : Addr) (x4 : Addr) : (twf x0 x1 x2 x3 x4).lookup ("blocked_up" : Str) = none := by simp [twf, List.lookup, twf_mblocked_up_0, twf_mblocked_up_1, twf_mblocked_up_2, twf_mblocked_up_3, twf_mblocked_up_4]
theorem twf_put_depth (x0 : Int) (x1 : Int) (x2 : Int) (x3 : Addr) (x4 : Addr) (y : Int) : putF "depth" (V.int y) (twf x0 x1 x2 x3 x4) = twf y x1 x2 x3 x4 := by simp [putF, twf, twf_q1_0, twf_q2_0, twf_q3_0, twf_q4_0]
theorem twf_put_spills (x0 : Int) (x1 : Int) (x2 : Int) (x3 : Addr) (x4 : Addr) (y : Int) : putF "spills" (V.int y) (twf x0 x1 x2 x3 x4) = twf x0 y x2 x3 x4 := by simp [putF, twf, twf_q0_1, twf_q2_1, twf_q3_1, twf_q4_1]
theorem twf_put_fills (x0 : Int) (x1 : Int) (x2 : Int) (x3 : Addr) (x4 : Addr) (y : Int) : putF "fills" (V.int y) (twf x0 x1 x2 x3 x4) = twf x0 x1 y x3 x4 := by simp [putF, twf, twf_q0_2, twf_q1_2, twf_q3_2, twf_q4_2]
theorem twf_put__view (x0 : Int) (x1 : Int) (x2 : Int) (x3 : Addr) (x4 : Addr) (y : Addr) : putF "_view" (V.ref y) (twf x0 x1 x2 x3 x4) = twf x0 x1 x2 y x4 := by simp [putF, twf, twf_q0_3, twf_q1_3, twf_q2_3, twf_q4_3]
theorem twf_put__above (x0 : Int) (x1 : Int) (x2 : Int) (x3 : Addr) (x4 : Addr) (y : Addr) : putF "_above" (V.ref y) (twf x0 x1 x2 x3 x4) = twf x0 x1 x2 x3 y := by simp [putF, twf, twf_q0_4, twf_q1_4, twf_q2_4, twf_q3_4]
theorem twf_mk (x0 : Int) (x1 : Int) (x2 : Int) (x3 : Addr) (x4 : Addr) : putF "_above" (V.ref x4) (putF "_view" (V.ref x3) (putF "fills" (V.int x2) (putF "spills" (V.int x1) (putF "depth" (V.int x0) [])))) = twf x0 x1 x2 x3 x4 := by simp [putF, twf, twf_q0_1, twf_q0_2, twf_q0_3, twf_q0_4, twf_q1_0, twf_q1_2, twf_q1_3, twf_q1_4, twf_q2_0, twf_q2_1, twf_q2_3, twf_q2_4, twf_q3_0, twf_q3_1, twf_q3_2, twf_q3_4, twf_q4_0, twf_q4_1, twf_q4_2, twf_q4_3]
theorem twf_len1 (x0 : Int) : (putF "depth" (V.int x0) ([])).length < 1000 := by simp [putF, twf_q0_1, twf_q0_2, twf_q0_3, twf_q0_4, twf_q1_0, twf_q1_2, twf_q1_3, twf_q1_4, twf_q2_0, twf_q2_1, twf_q2_3, twf_q2_4, twf_q3_0, twf_q3_1, twf_q3_2, twf_q3_4, twf_q4_0, twf_q4_1, twf_q4_2, twf_q4_3]
theorem twf_len2 (x0 : Int) (x1 : Int) : (putF "spills" (V.int x1) (putF "depth" (V.int x0) ([]))).length < 1000 := by simp [putF, twf_q0_1, twf_q0_2, twf_q0_3, twf_q0_4, twf_q1_0, twf_q1_2, twf_q1_3, twf_q1_4, twf_q2_0, twf_q2_1, twf_q2_3, twf_q2_4, twf_q3_0, twf_q3_1, twf_q3_2, twf_q3_4, twf_q4_0, twf_q4_1, twf_q4_2, twf_q4_3]
theorem twf_len3 (x0 : Int) (x1 : Int) (x2 : Int) : (putF "fills" (V.int x2) (putF "spills" (V.int x1) (putF "depth" (V.int x0) ([])))).length < 1000 := by simp [putF, twf_q0_1, twf_q0_2, twf_q0_3, twf_q0_4, twf_q1_0, twf_q1_2, twf_q1_3, twf_q1_4, twf_q2_0, twf_q2_1, twf_q2_3, twf_q2_4, twf_q3_0, twf_q3_1, twf_q3_2, twf_q3_4, twf_q4_0, twf_q4_1, twf_q4_2, twf_q4_3]
theorem twf_len4 (x0 : Int) (x1 : Int) (x2 : Int) (x3 : Addr) : (putF "_view" (V.ref x3) (putF "fills" (V.int x2) (putF "spills" (V.int x1) (putF "depth" (V.int x0) ([]))))).length < 1000 := by simp [putF, twf_q0_1, twf_q0_2, twf_q0_3, twf_q0_4, twf_q1_0, twf_q1_2, twf_q1_3, twf_q1_4, twf_q2_0, twf_q2_1, twf_q2_3, twf_q2_4, twf_q3_0, twf_q3_1, twf_q3_2, twf_q3_4, twf_q4_0, twf_q4_1, twf_q4_2, twf_q4_3]

/-! ### windows, in plain terms -/
structure Ab where
  G : List Int
  R : Nat → List Int
  L : Nat → List Int
  n : Nat
def z8 : List Int := List.replicate 8 0
def upF (f : Nat → List Int) (k : Nat) (y : List Int) : Nat → List Int := fun j => if j = k then y else f j
theorem upF_same {f : Nat → List Int} {k : Nat} {y : List Int} : upF f k y k = y := if_pos rfl
theorem upF_ne {f : Nat → List Int} {k j : Nat} {y : List Int} (h : j ≠ k) : upF f k y j = f j := if_neg h
theorem setL {xs ys : List Int} {n j : Nat} {w : Int} (e : xs.length = n) (h : j < n) : (xs ++ ys).set j w = xs.set j w ++ ys := List.set_append_left _ _ (by rw [e]; exact h)
theorem setR {xs ys : List Int} {n j : Nat} {w : Int} (e : xs.length = n) (h : n ≤ j) : (xs ++ ys).set j w = xs ++ ys.set (j - n) w := by rw [List.set_append_right _ _ (by rw [e]; exact h), e]
namespace Ab
structure ok (A : Ab) : Prop where
  g : A.G.length = 8
  r : ∀ k, (A.R k).length = 8
  l : ∀ k, (A.L k).length = 8
def view (A : Ab) : List Int := A.G ++ (A.R (A.n + 1) ++ (A.L A.n ++ A.R A.n))
def zero : Ab := ⟨z8, fun _ => z8, fun _ => z8, 0⟩
def down (A : Ab) : Ab := ⟨A.G, upF A.R (A.n + 2) z8, upF A.L (A.n + 1) z8, A.n + 1⟩
def up (A : Ab) : Ab := { A with n := A.n - 1 }
def wr (A : Ab) (j : Nat) (w : Int) : Ab :=
  if j = 0 then A else if j < 8 then { A with G := A.G.set j w } else if j < 16 then { A with R := upF A.R (A.n + 1) ((A.R (A.n + 1)).set (j - 8) w) }
  else if j < 24 then { A with L := upF A.L A.n ((A.L A.n).set (j - 16) w) } else { A with R := upF A.R A.n ((A.R A.n).set (j - 24) w) }
variable {A : Ab}
theorem zero_ok : zero.ok := ⟨rfl, fun _ => rfl, fun _ => rfl⟩
theorem ok.view (h : A.ok) : A.view.length = 32 := by simp [Ab.view, h.g, h.r, h.l]
theorem ok.down (h : A.ok) : A.down.ok := by
  refine ⟨h.g, fun k => ?_, fun k => ?_⟩
  · show (upF _ _ _ k).length = 8
    unfold upF; split
    · rfl
    · exact h.r k
  · show (upF _ _ _ k).length = 8
    unfold upF; split
    · rfl
    · exact h.l k
theorem ok.up (h : A.ok) : A.up.ok := ⟨h.g, h.r, h.l⟩
theorem upF_len {f : Nat → List Int} {k : Nat} {y : List Int} (h : ∀ k, (f k).length = 8) (hy : y.length = 8) : ∀ j, (upF f k y j).length = 8 := fun j => by
  unfold upF; split
  · exact hy
  · exact h j
theorem ok.wr (h : A.ok) (j : Nat) (w : Int) : (A.wr j w).ok := by
  unfold Ab.wr
  split
  · exact h
  split
  · exact ⟨by simp [h.g], h.r, h.l⟩
  split
  · exact ⟨h.g, upF_len h.r (by simp [h.r]), h.l⟩
  split
  · exact ⟨h.g, h.r, upF_len h.l (by simp [h.l])⟩
  · exact ⟨h.g, upF_len h.r (by simp [h.r]), h.l⟩
theorem wr_n (j : Nat) (w : Int) : (A.wr j w).n = A.n := by
  unfold wr
  repeat' split
  all_goals rfl
theorem view_down (h : A.ok) : A.down.view = A.view.take 8 ++ (List.replicate 16 0 ++ (A.view.drop 8).take 8) := by
  have e1 : A.view.take 8 = A.G := List.take_left' h.g
  have e2 : A.view.drop 8 = A.R (A.n + 1) ++ (A.L A.n ++ A.R A.n) := List.drop_left' h.g
  have e3 : (A.view.drop 8).take 8 = A.R (A.n + 1) := by rw [e2]; exact List.take_left' (h.r _)
  rw [e1, e3]
  show A.G ++ (upF A.R (A.n + 2) z8 (A.n + 1 + 1) ++ (upF A.L (A.n + 1) z8 (A.n + 1) ++ upF A.R (A.n + 2) z8 (A.n + 1))) = _
  rw [show A.n + 1 + 1 = A.n + 2 from rfl, upF_same, upF_same, upF_ne (by omega), ← List.append_assoc z8]
  rfl
theorem view_ins (h : A.ok) : A.view.drop 16 = A.L A.n ++ A.R A.n := by
  have e : A.view = (A.G ++ A.R (A.n + 1)) ++ (A.L A.n ++ A.R A.n) := by simp [Ab.view]
  rw [e]
  exact List.drop_left' (by simp [h.g, h.r])
theorem view_up (h : A.ok) {m : Nat} (hm : A.n = m + 1) : A.up.view = A.view.take 8 ++ (A.view.drop 24 ++ (A.L m ++ A.R m)) := by
  have e1 : A.view.take 8 = A.G := List.take_left' h.g
  have e2 : A.view = (A.G ++ (A.R (A.n + 1) ++ A.L A.n)) ++ A.R A.n := by simp [Ab.view]
  have e3 : A.view.drop 24 = A.R A.n := by rw [e2]; exact List.drop_left' (by simp [h.g, h.r, h.l])
  rw [e1, e3]
  show A.G ++ (A.R (A.n - 1 + 1) ++ (A.L (A.n - 1) ++ A.R (A.n - 1))) = _
  rw [hm, show m + 1 - 1 = m from rfl]
theorem view_wr (h : A.ok) {j : Nat} (hj : j < 32) (h0 : j ≠ 0) (w : Int) : (A.wr j w).view = A.view.set j w := by
  have hg := h.g
  have hr1 := h.r (A.n + 1)
  have hl := h.l A.n
  unfold wr
  rw [if_neg h0]
  by_cases c1 : j < 8
  · rw [if_pos c1]
    exact (setL hg c1).symm
  rw [if_neg c1]
  by_cases c2 : j < 16
  · rw [if_pos c2]
    show A.G ++ (upF _ _ _ (A.n + 1) ++ (A.L A.n ++ upF _ _ _ A.n)) = _
    rw [upF_same, upF_ne (by omega)]
    unfold Ab.view
    rw [setR hg (by omega), setL hr1 (by omega)]
  rw [if_neg c2]
  by_cases c3 : j < 24
  · rw [if_pos c3]
    show A.G ++ (A.R (A.n + 1) ++ (upF _ _ _ A.n ++ A.R A.n)) = _
    rw [upF_same]
    unfold Ab.view
    rw [setR hg (by omega), setR hr1 (by omega), setL hl (by omega), show j - 8 - 8 = j - 16 by omega]
  rw [if_neg c3]
  show A.G ++ (upF _ _ _ (A.n + 1) ++ (A.L A.n ++ upF _ _ _ A.n)) = _
  rw [upF_same, upF_ne (by omega)]
  unfold Ab.view
  rw [setR hg (by omega), setR hr1 (by omega), setR hl (by omega), show j - 8 - 8 - 8 = j - 24 by omega]
theorem wr_row {j : Nat} (w : Int) {k : Nat} (hk : k < A.n) : (A.wr j w).L k ++ (A.wr j w).R k = A.L k ++ A.R k := by
  unfold wr
  repeat' split
  all_goals first
    | rfl
    | (show _ ++ upF _ _ _ k = _; rw [upF_ne (by omega)])
    | (show upF _ _ _ k ++ _ = _; rw [upF_ne (by omega)])
end Ab
/-! ### a tower -/
structure TWx (C : Addr) (τ : Tg) (i : Nat) (H : Hp) (t dx vw ab : Addr) (ar : Nat → Addr) (A : Ab) : Prop where
  ob : At τ H t (.ins C dx (twf A.n 0 0 vw ab)) (i, 0, 0)
  vw : At τ H vw (.lst (A.view.map V.int)) (i, 1, 0)
  ab : At τ H ab (.lst ((List.range A.n).map fun k => V.ref (ar k))) (i, 2, 0)
  ar : ∀ k, k < A.n → At τ H (ar k) (.lst ((A.L k ++ A.R k).map V.int)) (i, 3, k)
def TW (C : Addr) (τ : Tg) (i : Nat) (H : Hp) (t : Addr) (A : Ab) : Prop := ∃ dx vw ab ar, TWx C τ i H t dx vw ab ar A
theorem TW.st {C : Addr} {τ τ' : Tg} {i : Nat} {H H' : Hp} {t : Addr} {A : Ab} {S : List Nat} (h : TW C τ i H t A) (s : Stp τ τ' S H H') (n : i ∉ S) : TW C τ' i H' t A := by
  obtain ⟨dx, vw, ab, ar, x⟩ := h
  exact ⟨dx, vw, ab, ar, x.ob.st s n, x.vw.st s n, x.ab.st s n, fun k hk => (x.ar k hk).st s n⟩
def spEV : Sp := fun vs H Q _ => vs = [] ∧ ∀ p H', H p = none → Same H H' → H' p = some (.lst ((List.replicate 32 (0 : Int)).map V.int)) → Q (.ref p) H'
def spLI : Sp := fun vs H Q _ => ∃ (v : Addr) (ys : List Int), vs = [.ref v] ∧ H v = some (.lst (ys.map V.int)) ∧ ∀ p, H p = none → Q (.ref p) (upd H p (.lst ((ys.drop 16).map V.int)))
def spVB : Sp := fun vs H Q _ => ∃ (v : Addr) (ys : List Int), vs = [.ref v] ∧ H v = some (.lst (ys.map V.int)) ∧ ys.length = 32 ∧ ∀ p H', H p = none → Same H H' → H' p = some (.lst ((ys.take 8 ++ (List.replicate 16 0 ++ (ys.drop 8).take 8)).map V.int)) → Q (.ref p) H'
def spVA : Sp := fun vs H Q _ => ∃ (v u : Addr) (ys ws : List Int), vs = [.ref v, .ref u] ∧ H v = some (.lst (ys.map V.int)) ∧ H u = some (.lst (ws.map V.int)) ∧ ys.length = 32 ∧ ws.length = 16 ∧ ∀ p H', H p = none → Same H H' → H' p = some (.lst ((ys.take 8 ++ (ys.drop 24 ++ ws)).map V.int)) → Q (.ref p) H'
def spTI (C : Addr) : Sp := fun vs H Q _ => ∃ (τ : Tg) (i : Nat) (t dx : Addr), vs = [.ref t] ∧ At τ H t (.ins C dx []) (i, 0, 0) ∧ ∀ τ' H', TW C τ' i H' t .zero → Stp τ τ' [i] H H' → Q .non H'
def spTR (C : Addr) : Sp := fun vs H Q _ => ∃ (τ : Tg) (i : Nat) (t : Addr) (A : Ab) (j : Nat), vs = [.ref t, .int j] ∧ TW C τ i H t A ∧ A.ok ∧ j < 32 ∧ Q (.int (A.view.getD j 0)) H
def spTWr (C : Addr) : Sp := fun vs H Q _ => ∃ (τ : Tg) (i : Nat) (t : Addr) (A : Ab) (j : Nat) (w : Int), vs = [.ref t, .int j, .int w] ∧ TW C τ i H t A ∧ A.ok ∧ j < 32 ∧ ∀ H', TW C τ i H' t (A.wr j w) → Stp τ τ [i] H H' → Q .non H'
def spTD (C : Addr) : Sp := fun vs H Q _ => ∃ (τ : Tg) (i : Nat) (t : Addr) (A : Ab), vs = [.ref t] ∧ TW C τ i H t A ∧ A.ok ∧ A.n ≤ 200 ∧ ∀ τ' H', TW C τ' i H' t A.down → Stp τ τ' [i] H H' → Q .non H'
def spTU (C : Addr) : Sp := fun vs H Q _ => ∃ (τ : Tg) (i : Nat) (t : Addr) (A : Ab), vs = [.ref t] ∧ TW C τ i H t A ∧ A.ok ∧ A.n ≤ 200 ∧ 0 < A.n ∧ ∀ τ' H', TW C τ' i H' t A.up → Stp τ τ' [i] H H' → Q .non H'
def spTB : Sp := fun vs H Q _ => ∃ x, vs = [x] ∧ Q (.bl false) H
section
variable {P : Program} {w : World} {K : PySem.W.Frag} {mg : Str → Option Value} {base : Heap} {a : Ad}
theorem ok_empty_view (T : Txt K mg a) : FnOk P w K mg base CX0 1 a.f_empty_view a.d_empty_view [] spEV := by
  refine T.F_empty_view.ok sc_empty_view (fun vs H Q E h => ?_) (fun cdv A outer s H vs Q E hr h => ?_)
  · obtain ⟨rfl, _⟩ := h; rfl
  · obtain ⟨rfl, q⟩ := h
    refine ⟨_, (pss_one (ps_ret (pe_op op_rep (pe_lst (pa_cons pe_int pa_nil)) pe_int))), ?_⟩
    refine ⟨(by show 1 ≤ sizeLine; decide), fun p1 n1 => ⟨_, _, _, rfl, rfl, upd_same, by decide, by decide, (by show 1 * 32 ≤ sizeLine; decide), fun p n => ?_⟩⟩
    refine q p _ ((sN (Same.refl H) n1).free n) (sN (sN (Same.refl H) n1) n) ?_
    rw [upd_same]
    exact congrArg (fun z => some (HO.lst z)) (rep_int 32)
theorem ok_locals_and_ins (T : Txt K mg a) : FnOk P w K mg base CX0 1 a.f_locals_and_ins a.d_locals_and_ins ["view"] spLI := by
  refine T.F_locals_and_ins.ok sc_locals_and_ins (fun vs H Q E h => ?_) (fun cdv A outer s H vs Q E hr h => ?_)
  · obtain ⟨_, _, rfl, _⟩ := h; rfl
  · obtain ⟨v, ys, rfl, hv, q⟩ := h
    refine ⟨_, (pss_one (ps_ret (pe_slice sl_list (pv 0) (po_some (pe_glob (v := .int (16)) rfl T.g_FIRST_LOCAL ⟨_, rfl⟩)) po_none))), ?_⟩
    refine ⟨_, rfl, _, rfl, v, _, rfl, SqL.of hv, fun p n => ?_⟩
    rw [show cutV (ys.map V.int) (some 16) none = (ys.drop 16).map V.int by rw [show (16 : Int) = ((16 : Nat) : Int) from rfl, cut_lo, List.map_drop]]
    exact q p n
theorem ok_view_below (T : Txt K mg a) : FnOk P w K mg base CX0 1 a.f_view_below a.d_view_below ["view"] spVB := by
  refine T.F_view_below.ok sc_view_below (fun vs H Q E h => ?_) (fun cdv A outer s H vs Q E hr h => ?_)
  · obtain ⟨_, _, rfl, _⟩ := h; rfl
  · obtain ⟨v, ys, rfl, hv, hl, q⟩ := h
    refine ⟨_, (pss_one (ps_ret (pe_op op_cat (pe_op op_cat (pe_slice sl_list (pv 0) po_none (po_some (pe_glob (v := .int (8)) rfl T.g_FIRST_OUT ⟨_, rfl⟩))) (pe_op op_rep (pe_lst (pa_cons pe_int pa_nil)) (pe_op op_sub (pe_glob (v := .int (24)) rfl T.g_FIRST_IN ⟨_, rfl⟩) (pe_glob (v := .int (8)) rfl T.g_FIRST_OUT ⟨_, rfl⟩)))) (pe_slice sl_list (pv 0) (po_some (pe_glob (v := .int (8)) rfl T.g_FIRST_OUT ⟨_, rfl⟩)) (po_some (pe_glob (v := .int (16)) rfl T.g_FIRST_LOCAL ⟨_, rfl⟩)))))), ?_⟩
    refine ⟨_, rfl, _, rfl, v, _, rfl, SqL.of hv, fun p1 n1 => ?_⟩
    rw [show cutV (ys.map V.int) none (some 8) = (ys.take 8).map V.int by rw [show (8 : Int) = ((8 : Nat) : Int) from rfl, cut_hi, List.map_take]]
    have s1 := sN (Same.refl H) n1 (o := .lst ((ys.take 8).map V.int))
    refine ⟨(by show 1 ≤ sizeLine; decide), fun p2 n2 => ?_⟩
    have s2 := sN s1 n2 (o := .lst [V.int 0])
    have a1 := sN (Same.refl _) n2 (o := .lst [V.int 0]) p1 _ upd_same
    refine ⟨_, _, rfl, rfl, _, _, _, rfl, rfl, upd_same, by decide, by decide, (by show 1 * 16 ≤ sizeLine; decide), fun p3 n3 => ?_⟩
    rw [show (List.replicate ((24 : Int) - 8).toNat [V.int 0]).flatten = (List.replicate 16 (0 : Int)).map V.int from rep_int 16]
    have s3 := sN s2 n3 (o := .lst ((List.replicate 16 (0 : Int)).map V.int))
    have a3 := sN (Same.refl _) n3 (o := .lst ((List.replicate 16 (0 : Int)).map V.int)) p1 _ a1
    refine ⟨_, _, _, _, rfl, rfl, a3, upd_same, by simp [hl]; decide, fun p4 n4 => ?_⟩
    have s4 := sN s3 n4 (o := .lst ((ys.take 8).map V.int ++ (List.replicate 16 (0 : Int)).map V.int))
    refine ⟨_, rfl, _, rfl, _, rfl, v, _, rfl, SqL.of (s4 _ _ hv), fun p5 n5 => ?_⟩
    rw [show cutV (ys.map V.int) (some 8) (some 16) = ((ys.drop 8).take 8).map V.int by rw [show (8 : Int) = ((8 : Nat) : Int) from rfl, show (16 : Int) = ((16 : Nat) : Int) from rfl, cut_mid _ _ _ (by decide) (by simp [hl]), List.map_take, List.map_drop]]
    have s5 := sN s4 n5 (o := .lst (((ys.drop 8).take 8).map V.int))
    have a5 := sN (Same.refl _) n5 (o := .lst (((ys.drop 8).take 8).map V.int)) p4 _ upd_same
    refine ⟨_, _, _, _, rfl, rfl, a5, upd_same, by simp [hl]; decide, fun p6 n6 => ?_⟩
    refine q p6 _ (s5.free n6) (sN s5 n6) ?_
    rw [upd_same, ← List.map_append, ← List.map_append, List.append_assoc]
theorem ok_view_above (T : Txt K mg a) : FnOk P w K mg base CX0 1 a.f_view_above a.d_view_above ["view", "words"] spVA := by
  refine T.F_view_above.ok sc_view_above (fun vs H Q E h => ?_) (fun cdv A outer s H vs Q E hr h => ?_)
  · obtain ⟨_, _, _, _, rfl, _⟩ := h; rfl
  · obtain ⟨v, u, ys, ws, rfl, hv, hu, hl, hw, q⟩ := h
    refine ⟨_, (pss_one (ps_ret (pe_op op_cat (pe_op op_cat (pe_slice sl_list (pv 0) po_none (po_some (pe_glob (v := .int (8)) rfl T.g_FIRST_OUT ⟨_, rfl⟩))) (pe_slice sl_list (pv 0) (po_some (pe_glob (v := .int (24)) rfl T.g_FIRST_IN ⟨_, rfl⟩)) po_none)) (pv 1)))), ?_⟩
    refine ⟨_, rfl, _, rfl, v, _, rfl, SqL.of hv, fun p1 n1 => ?_⟩
    rw [show cutV (ys.map V.int) none (some 8) = (ys.take 8).map V.int by rw [show (8 : Int) = ((8 : Nat) : Int) from rfl, cut_hi, List.map_take]]
    have s1 := sN (Same.refl H) n1 (o := .lst ((ys.take 8).map V.int))
    refine ⟨_, rfl, _, rfl, v, _, rfl, SqL.of (s1 _ _ hv), fun p2 n2 => ?_⟩
    rw [show cutV (ys.map V.int) (some 24) none = (ys.drop 24).map V.int by rw [show (24 : Int) = ((24 : Nat) : Int) from rfl, cut_lo, List.map_drop]]
    have s2 := sN s1 n2 (o := .lst ((ys.drop 24).map V.int))
    have a1 := sN (Same.refl _) n2 (o := .lst ((ys.drop 24).map V.int)) p1 _ upd_same
    refine ⟨_, _, _, _, rfl, rfl, a1, upd_same, by simp [hl]; decide, fun p3 n3 => ?_⟩
    have s3 := sN s2 n3 (o := .lst ((ys.take 8).map V.int ++ (ys.drop 24).map V.int))
    refine ⟨_, rfl, _, _, _, _, rfl, rfl, upd_same, s3 _ _ hu, by simp [hl, hw]; decide, fun p4 n4 => ?_⟩
    refine q p4 _ (s3.free n4) (sN s3 n4) ?_
    rw [upd_same, ← List.map_append, ← List.map_append, List.append_assoc]
end

/-! ### lists read and written -/
theorem at_map {ys : List Int} {j : Nat} (h : j < ys.length) : (ys.map V.int)[j]? = some (V.int (ys.getD j 0)) := by
  rw [List.getElem?_map, List.getD_eq_getElem?_getD, List.getElem?_eq_getElem h] <;> rfl
theorem ixN_nat {n j : Nat} (h : j < n) : ixN n (j : Int) = some j := by
  unfold ixN
  rw [if_pos (by omega), if_pos (by omega), Int.toNat_natCast]
theorem set_int {ys : List Int} {j : Nat} {w : Int} : (ys.map V.int).set j (V.int w) = (ys.set j w).map V.int := by rw [List.map_set]
theorem rng_at {f : Nat → V} {n k : Nat} (h : k < n) : ((List.range n).map f)[k]? = some (f k) := by simp [h]
theorem rng_len {f : Nat → V} {n : Nat} : ((List.range n).map f).length = n := by simp
theorem rng_drop {f : Nat → V} {n : Nat} : ((List.range (n + 1)).map f).dropLast = (List.range n).map f := by
  rw [List.range_succ, List.map_append]
  exact List.dropLast_concat
theorem rng_up {f g : Nat → V} {n : Nat} (h : ∀ k, k < n → f k = g k) : (List.range n).map f = (List.range n).map g := List.map_congr_left fun k hk => h k (List.mem_range.mp hk)
def upA (f : Nat → Addr) (k : Nat) (y : Addr) : Nat → Addr := fun j => if j = k then y else f j
theorem upA_same {f : Nat → Addr} {k : Nat} {y : Addr} : upA f k y k = y := if_pos rfl
theorem upA_ne {f : Nat → Addr} {k j : Nat} {y : Addr} (h : j ≠ k) : upA f k y j = f j := if_neg h
theorem rng_app {f : Nat → Addr} {n : Nat} {p : Addr} : ((List.range n).map fun k => V.ref (f k)) ++ [V.ref p] = (List.range (n + 1)).map fun k => V.ref (upA f n p k) := by
  rw [List.range_succ, List.map_append]
  congr 1
  · exact rng_up fun k hk => by rw [upA_ne (by omega)]
  · show _ = [V.ref (upA f n p n)]
    rw [upA_same]
theorem sz {n : Nat} (h : n ≤ 900) : n < sizeLine := small1000 (by omega)
theorem mem1 {i : Nat} {x : Nat × Nat × Nat} {τ : Tg} {p : Addr} (h : τ p = x) (e : x.1 = i) : (τ p).1 ∈ [i] := by rw [h, e]; exact List.mem_singleton.mpr rfl

theorem TWx.wr {C : Addr} {τ : Tg} {i : Nat} {H : Hp} {t dx vw ab : Addr} {ar : Nat → Addr} {A : Ab} (h : TWx C τ i H t dx vw ab ar A) (o : A.ok) {j : Nat} (hj : j < 32) (h0 : j ≠ 0) (w : Int) :
    TWx C τ i (upd H vw (.lst ((A.view.set j w).map V.int))) t dx vw ab ar (A.wr j w) := by
  have hn : (A.wr j w).n = A.n := Ab.wr_n j w
  refine ⟨?_, ?_, ?_, fun k hk => ?_⟩
  · rw [hn]
    exact h.ob.put h.vw.2 (by simp)
  · rw [Ab.view_wr o hj h0]
    exact .set h.vw.2
  · rw [hn]
    exact h.ab.put h.vw.2 (by simp)
  · rw [hn] at hk
    rw [Ab.wr_row w hk]
    exact (h.ar k hk).put h.vw.2 (by simp)
section
variable {P : Program} {w : World} {K : PySem.W.Frag} {mg : Str → Option Value} {base : Heap} {a : Ad}
theorem ok_Tower___init__ (T : Txt K mg a) : FnOk P w K mg base CX0 2 a.f_Tower___init__ a.d_Tower___init__ ["self"] (spTI a.C_Tower) := by
  have G_empty_view : FnOk P w K mg base CX0 1 _ _ _ _ := ok_empty_view T
  refine T.F_Tower___init__.ok sc_Tower___init__ (fun vs H Q E h => ?_) (fun cdv A outer s H vs Q E hr h => ?_)
  · obtain ⟨_, _, _, _, rfl, _⟩ := h; rfl
  · obtain ⟨τ, i, t, dx, rfl, ht, q⟩ := h
    have mt : (τ t).1 ∈ [i] := mem1 ht.2 rfl
    refine ⟨_, (pss_cons (ps_fld (pv 0) pe_int rfl)
      (pss_cons (ps_fld (pv 0) pe_int rfl)
      (pss_cons (ps_fld (pv 0) pe_int rfl)
      (pss_cons (ps_fld (pv 0) (pe_call0 G_empty_view (hr.mono (by decide)) rfl T.g_empty_view T.k_empty_view T.bd_empty_view .nil pass0) rfl)
      (pss_one (ps_fld (pv 0) (pe_lst pa_nil) rfl)))))), ?_⟩
    refine ⟨_, rfl, t, a.C_Tower, dx, _, rfl, ht.1, T.cl_Tower, T.n_Tower_depth, (by show 0 < 1000; decide), ?_⟩
    refine ⟨_, rfl, t, a.C_Tower, dx, _, rfl, upd_same, T.cl_Tower, T.n_Tower_spills, twf_len1 _, ?_⟩
    refine ⟨_, rfl, t, a.C_Tower, dx, _, rfl, upd_same, T.cl_Tower, T.n_Tower_fills, twf_len2 _ _, ?_⟩
    refine ⟨rfl, fun p1 H1 n1 s1 h1 => ?_⟩
    have S1 := (((Stp.refl (τ := τ) (S := [i]) (H := H)).put mt).put mt).put mt |>.sameN s1 n1 (x := (i, 1, 0))
    have t1 := (S1.ag t (some_ne ht.1)).trans ht.2
    have mt1 : (tgN τ p1 (i, 1, 0) t).1 ∈ [i] := mem1 t1 rfl
    refine ⟨_, rfl, t, a.C_Tower, dx, _, rfl, s1 _ _ upd_same, T.cl_Tower, T.n_Tower__view, twf_len3 _ _ _, ?_⟩
    refine ⟨by decide, fun p2 n2 => ?_⟩
    refine ⟨_, rfl, t, a.C_Tower, dx, _, rfl, (by rw [upd_ne (ne_of_none upd_same n2)]; exact upd_same), T.cl_Tower, T.n_Tower__above, twf_len4 _ _ _ _, ?_⟩
    have S2 := (S1.put mt1).new n2 (o := .lst []) (x := (i, 2, 0))
    have t2 := (S2.ag t (some_ne ht.1)).trans ht.2
    refine q _ _ ⟨dx, p1, p2, fun _ => 0, ?_, ?_, ?_, fun k hk => absurd hk (Nat.not_lt_zero k)⟩ (S2.put (mem1 t2 rfl))
    · exact ⟨by rw [upd_same]; exact congrArg (fun z => some (HO.ins _ dx z)) (twf_mk 0 0 0 p1 p2), t2⟩
    · exact (((At.in h1).put t1 (by simp)).new n2).put t2 (by simp)
    · exact At.mk.put t2 (by simp)
theorem ok_Tower_read (T : Txt K mg a) : FnOk P w K mg base CX0 1 a.f_Tower_read a.d_Tower_read ["self", "number"] (spTR a.C_Tower) := by
  refine T.F_Tower_read.ok sc_Tower_read (fun vs H Q E h => ?_) (fun cdv A outer s H vs Q E hr h => ?_)
  · obtain ⟨_, _, _, _, _, rfl, _⟩ := h; rfl
  · obtain ⟨τ, i, t, A, j, rfl, ⟨dx, vw, ab, ar, W⟩, ho, hj, q⟩ := h
    refine ⟨_, (pss_one (ps_ret (pe_ix ix_list (pe_fld (pv 0) rfl) (pv 1) (fun _ _ => rfl)))), ?_⟩
    exact ⟨_, rfl, t, a.C_Tower, dx, _, _, rfl, W.ob.1, T.cl_Tower, T.n_Tower__view, twf__view _ _ _ _ _, _, rfl, _, _, _, _, rfl, rfl, SqL.of W.vw.1, atI_nat (at_map (by rw [ho.view]; exact hj)), q⟩
theorem ok_Tower_write (T : Txt K mg a) : FnOk P w K mg base CX0 1 a.f_Tower_write a.d_Tower_write ["self", "number", "word"] (spTWr a.C_Tower) := by
  refine T.F_Tower_write.ok sc_Tower_write (fun vs H Q E h => ?_) (fun cdv A outer s H vs Q E hr h => ?_)
  · obtain ⟨_, _, _, _, _, _, rfl, _⟩ := h; rfl
  · obtain ⟨τ, i, t, A, j, x, rfl, ⟨dx, vw, ab, ar, W⟩, ho, hj, q⟩ := h
    refine ⟨_, (pss_one (ps_if (pt_cmpR op_ne (pv 1) pe_int (nomark _)) (pss_one (ps_asg (pv 2) (pg_sub (pe_fld (pv 0) rfl) (pv 1) set_list))) pss_nil)), ?_⟩
    refine ⟨_, rfl, rfl, _, rfl, ite3 (fun e => ?_) (fun e => ?_)⟩
    · have h0 : j ≠ 0 := by intro z; subst z; simp at e
      refine ⟨_, rfl, _, rfl, t, a.C_Tower, dx, _, _, rfl, W.ob.1, T.cl_Tower, T.n_Tower__view, twf__view _ _ _ _ _, _, rfl, _, _, _, _, rfl, rfl, W.vw.1, ixN_nat (by rw [List.length_map, ho.view]; exact hj), ?_⟩
      rw [set_int]
      exact q _ ⟨dx, vw, ab, ar, W.wr ho hj h0 x⟩ (Stp.refl.put (mem1 W.vw.2 rfl))
    · have h0 : j = 0 := by simpa using e
      have h1 := q H
      rw [show A.wr j x = A from if_pos h0] at h1
      exact h1 ⟨dx, vw, ab, ar, W⟩ Stp.refl
theorem ok_Tower_shift_down (T : Txt K mg a) : FnOk P w K mg base CX0 2 a.f_Tower_shift_down a.d_Tower_shift_down ["self"] (spTD a.C_Tower) := by
  have G_locals_and_ins : FnOk P w K mg base CX0 1 _ _ _ _ := ok_locals_and_ins T
  have G_view_below : FnOk P w K mg base CX0 1 _ _ _ _ := ok_view_below T
  refine T.F_Tower_shift_down.ok sc_Tower_shift_down (fun vs H Q E h => ?_) (fun cdv A outer s H vs Q E hr h => ?_)
  · obtain ⟨_, _, _, _, rfl, _⟩ := h; rfl
  · obtain ⟨τ, i, t, A, rfl, ⟨dx, vw, ab, ar, W⟩, ho, hn, q⟩ := h
    refine ⟨_, (pss_cons (ps_expr (pe_bm PySem.F.plainAttrs_list PySem.F.slot_list_append PySem.F.type_list_append mt_append (pe_fld (pv 0) rfl) (pa_cons (pe_call G_locals_and_ins (hr.mono (by decide)) rfl T.g_locals_and_ins T.k_locals_and_ins T.bd_locals_and_ins .nil pass0 (pa_cons (pe_fld (pv 0) rfl) pa_nil)) pa_nil)))
      (pss_cons (ps_fld (pv 0) (pe_call G_view_below (hr.mono (by decide)) rfl T.g_view_below T.k_view_below T.bd_view_below .nil pass0 (pa_cons (pe_fld (pv 0) rfl) pa_nil)) rfl)
      (pss_one (ps_fldaug (pv 0) pe_int in_add)))), ?_⟩
    refine ⟨_, rfl, t, a.C_Tower, dx, _, _, rfl, W.ob.1, T.cl_Tower, T.n_Tower__above, twf__above _ _ _ _ _, .inl ⟨rfl, _, SqL.of W.ab.1⟩, ?_⟩
    refine ⟨_, rfl, t, a.C_Tower, dx, _, _, rfl, W.ob.1, T.cl_Tower, T.n_Tower__view, twf__view _ _ _ _ _, vw, _, rfl, W.vw.1, fun p np => ?_⟩
    have b1 := W.ob.new np (u := .lst ((A.view.drop 16).map V.int)) (y := (i, 3, A.n))
    have b2 := W.vw.new np (u := .lst ((A.view.drop 16).map V.int)) (y := (i, 3, A.n))
    have b3 := W.ab.new np (u := .lst ((A.view.drop 16).map V.int)) (y := (i, 3, A.n))
    have b4 := fun k hk => (W.ar k hk).new np (u := .lst ((A.view.drop 16).map V.int)) (y := (i, 3, A.n))
    have bp : At (tgN τ p (i, 3, A.n)) (upd H p (.lst ((A.view.drop 16).map V.int))) p _ _ := At.mk
    have S1 := (Stp.refl (τ := τ) (S := [i]) (H := H)).new np (o := .lst ((A.view.drop 16).map V.int)) (x := (i, 3, A.n))
    refine ⟨ab, _, _, rfl, rfl, b3.1, sz (by rw [rng_len]; omega), ?_⟩
    rw [rng_app]
    have c1 := b1.put b3.2 (u := .lst ((List.range (A.n + 1)).map fun k => V.ref (upA ar A.n p k))) (by simp)
    have c2 := b2.put b3.2 (u := .lst ((List.range (A.n + 1)).map fun k => V.ref (upA ar A.n p k))) (by simp)
    have c4 := fun k hk => (b4 k hk).put b3.2 (u := .lst ((List.range (A.n + 1)).map fun k => V.ref (upA ar A.n p k))) (by simp)
    have cp := bp.put b3.2 (u := .lst ((List.range (A.n + 1)).map fun k => V.ref (upA ar A.n p k))) (by simp)
    have c3 : At _ _ ab _ _ := At.set (H := upd H p (.lst ((A.view.drop 16).map V.int))) (o := .lst ((List.range (A.n + 1)).map fun k => V.ref (upA ar A.n p k))) b3.2
    have S2 := S1.put (o := .lst ((List.range (A.n + 1)).map fun k => V.ref (upA ar A.n p k))) (mem1 b3.2 rfl)
    clear b1 b2 b4 bp S1
    refine ⟨_, rfl, t, a.C_Tower, dx, _, _, rfl, c1.1, T.cl_Tower, T.n_Tower__view, twf__view _ _ _ _ _, vw, _, rfl, c2.1, ho.view, fun v H2 nv s2 hv => ?_⟩
    have d1 := c1.sameN s2 nv (y := (i, 1, 0))
    have d3 := c3.sameN s2 nv (y := (i, 1, 0))
    have d4 := fun k hk => (c4 k hk).sameN s2 nv (y := (i, 1, 0))
    have dp := cp.sameN s2 nv (y := (i, 1, 0))
    have dv := At.in (τ := tgN τ p (i, 3, A.n)) (x := (i, 1, 0)) hv
    have S3 := S2.sameN s2 nv (x := (i, 1, 0))
    refine ⟨_, rfl, t, a.C_Tower, dx, _, rfl, d1.1, T.cl_Tower, T.n_Tower__view, (by show 5 < 1000; decide), ?_⟩
    rw [twf_put__view]
    refine ⟨_, rfl, t, a.C_Tower, dx, _, _, rfl, upd_same, T.cl_Tower, T.n_Tower_depth, twf_depth _ _ _ _ _, _, _, rfl, rfl, dx, _, upd_same, (by show 5 < 1000; decide), ?_⟩
    rw [twf_put_depth]
    refine q _ _ ⟨dx, v, ab, upA ar A.n p, ?_, ?_, ?_, fun k hk => ?_⟩ ((S3.put (mem1 d1.2 rfl)).put (mem1 d1.2 rfl))
    · exact .set d1.2
    · rw [Ab.view_down ho]
      exact (dv.put d1.2 (by simp)).put d1.2 (by simp)
    · exact (d3.put d1.2 (by simp)).put d1.2 (by simp)
    · show At _ _ _ (.lst ((upF A.L (A.n + 1) z8 k ++ upF A.R (A.n + 2) z8 k).map V.int)) _
      have hk' : k < A.n + 1 := hk
      rw [upF_ne (by omega), upF_ne (by omega)]
      by_cases e : k = A.n
      · subst e
        rw [upA_same, ← Ab.view_ins ho]
        exact (dp.put d1.2 (by simp)).put d1.2 (by simp)
      · rw [upA_ne e]
        exact ((d4 k (by omega)).put d1.2 (by simp)).put d1.2 (by simp)
theorem ok_Tower_shift_up (T : Txt K mg a) : FnOk P w K mg base CX0 2 a.f_Tower_shift_up a.d_Tower_shift_up ["self"] (spTU a.C_Tower) := by
  have G_view_above : FnOk P w K mg base CX0 1 _ _ _ _ := ok_view_above T
  refine T.F_Tower_shift_up.ok sc_Tower_shift_up (fun vs H Q E h => ?_) (fun cdv A outer s H vs Q E hr h => ?_)
  · obtain ⟨_, _, _, _, rfl, _⟩ := h; rfl
  · obtain ⟨τ, i, t, A, rfl, ⟨dx, vw, ab, ar, W⟩, ho, hn, h0, q⟩ := h
    obtain ⟨m, hm⟩ : ∃ m, A.n = m + 1 := ⟨A.n - 1, by omega⟩
    refine ⟨_, (pss_cons (ps_fld (pv 0) (pe_call G_view_above (hr.mono (by decide)) rfl T.g_view_above T.k_view_above T.bd_view_above .nil pass0 (pa_cons (pe_fld (pv 0) rfl) (pa_cons (pe_bm0 PySem.F.plainAttrs_list PySem.F.slot_list_pop PySem.F.type_list_pop mt_pop (pe_fld (pv 0) rfl)) pa_nil))) rfl)
      (pss_one (ps_fldaug (pv 0) pe_int in_sub))), ?_⟩
    have hm' : m < A.n := by omega
    have W3 := W.ab
    rw [hm] at W3
    refine ⟨_, rfl, t, a.C_Tower, dx, _, _, rfl, W.ob.1, T.cl_Tower, T.n_Tower__view, twf__view _ _ _ _ _, ?_⟩
    refine ⟨_, rfl, t, a.C_Tower, dx, _, _, rfl, W.ob.1, T.cl_Tower, T.n_Tower__above, twf__above _ _ _ _ _, .inl ⟨rfl, _, SqL.of W3.1⟩, ab, _, _, rfl, rfl, W3.1, (by rw [rng_len]; exact rng_at (by omega)), ?_⟩
    rw [rng_drop]
    have c1 := W.ob.put W3.2 (u := .lst ((List.range m).map fun k => V.ref (ar k))) (by simp)
    have c2 := W.vw.put W3.2 (u := .lst ((List.range m).map fun k => V.ref (ar k))) (by simp)
    have c4 := fun k hk => (W.ar k hk).put W3.2 (u := .lst ((List.range m).map fun k => V.ref (ar k))) (by simp)
    have c3 : At _ _ ab _ _ := At.set (H := H) (o := .lst ((List.range m).map fun k => V.ref (ar k))) W3.2
    have S2 := (Stp.refl (τ := τ) (S := [i]) (H := H)).put (o := .lst ((List.range m).map fun k => V.ref (ar k))) (mem1 W3.2 rfl)
    refine ⟨vw, ar m, _, _, rfl, c2.1, (c4 m hm').1, ho.view, by simp [ho.l, ho.r], fun v H2 nv s2 hv => ?_⟩
    have d1 := c1.sameN s2 nv (y := (i, 1, 0))
    have d3 := c3.sameN s2 nv (y := (i, 1, 0))
    have d4 := fun k hk => (c4 k hk).sameN s2 nv (y := (i, 1, 0))
    have dv := At.in (τ := τ) (x := (i, 1, 0)) hv
    have S3 := S2.sameN s2 nv (x := (i, 1, 0))
    refine ⟨_, rfl, t, a.C_Tower, dx, _, rfl, d1.1, T.cl_Tower, T.n_Tower__view, (by show 5 < 1000; decide), ?_⟩
    rw [twf_put__view]
    refine ⟨_, rfl, t, a.C_Tower, dx, _, _, rfl, upd_same, T.cl_Tower, T.n_Tower_depth, twf_depth _ _ _ _ _, _, _, rfl, rfl, dx, _, upd_same, (by show 5 < 1000; decide), ?_⟩
    rw [twf_put_depth]
    have en : A.up.n = m := by show A.n - 1 = m; omega
    refine q _ _ ⟨dx, v, ab, ar, ?_, ?_, ?_, fun k hk => ?_⟩ ((S3.put (mem1 d1.2 rfl)).put (mem1 d1.2 rfl))
    · rw [en, show (A.n : Int) - 1 = (m : Int) by omega]
      exact .set d1.2
    · rw [Ab.view_up ho hm]
      exact (dv.put d1.2 (by simp)).put d1.2 (by simp)
    · rw [en]
      exact (d3.put d1.2 (by simp)).put d1.2 (by simp)
    · rw [en] at hk
      exact ((d4 k (by omega)).put d1.2 (by simp)).put d1.2 (by simp)
theorem ok_Tower_blocked_down (T : Txt K mg a) : FnOk P w K mg base CX0 1 a.f_Tower_blocked_down a.d_Tower_blocked_down ["self"] spTB := by
  refine T.F_Tower_blocked_down.ok sc_Tower_blocked_down (fun vs H Q E h => ?_) (fun cdv A outer s H vs Q E hr h => ?_)
  · obtain ⟨_, rfl, _⟩ := h; rfl
  · obtain ⟨x, rfl, q⟩ := h
    exact ⟨_, (pss_one (ps_ret pe_bl)), q⟩
theorem ok_Tower_blocked_up (T : Txt K mg a) : FnOk P w K mg base CX0 1 a.f_Tower_blocked_up a.d_Tower_blocked_up ["self"] spTB := by
  refine T.F_Tower_blocked_up.ok sc_Tower_blocked_up (fun vs H Q E h => ?_) (fun cdv A outer s H vs Q E hr h => ?_)
  · obtain ⟨_, rfl, _⟩ := h; rfl
  · obtain ⟨x, rfl, q⟩ := h
    exact ⟨_, (pss_one (ps_ret pe_bl)), q⟩
end

/-! ### the law's own model -/
structure MDx (τ : Tg) (i : Nat) (H : Hp) (m g r l : Addr) (rr lr : Nat → Addr) (A : Ab) : Prop where
  m : At τ H m (.lst [.ref g, .ref r, .ref l]) (i, 0, 0)
  g : At τ H g (.lst (A.G.map V.int)) (i, 1, 0)
  r : At τ H r (.lst ((List.range (A.n + 2)).map fun k => V.ref (rr k))) (i, 2, 0)
  l : At τ H l (.lst ((List.range (A.n + 1)).map fun k => V.ref (lr k))) (i, 3, 0)
  rr : ∀ k, k < A.n + 2 → At τ H (rr k) (.lst ((A.R k).map V.int)) (i, 4, k)
  lr : ∀ k, k < A.n + 1 → At τ H (lr k) (.lst ((A.L k).map V.int)) (i, 5, k)
def MD (τ : Tg) (i : Nat) (H : Hp) (m : Addr) (A : Ab) : Prop := ∃ g r l rr lr, MDx τ i H m g r l rr lr A
theorem MDx.st {τ τ' : Tg} {i : Nat} {H H' : Hp} {m g r l : Addr} {rr lr : Nat → Addr} {A : Ab} {S : List Nat} (h : MDx τ i H m g r l rr lr A) (s : Stp τ τ' S H H') (n : i ∉ S) : MDx τ' i H' m g r l rr lr A :=
  ⟨h.m.st s n, h.g.st s n, h.r.st s n, h.l.st s n, fun k hk => (h.rr k hk).st s n, fun k hk => (h.lr k hk).st s n⟩
theorem MD.st {τ τ' : Tg} {i : Nat} {H H' : Hp} {m : Addr} {A : Ab} {S : List Nat} (h : MD τ i H m A) (s : Stp τ τ' S H H') (n : i ∉ S) : MD τ' i H' m A := by
  obtain ⟨g, r, l, rr, lr, x⟩ := h
  exact ⟨g, r, l, rr, lr, x.st s n⟩
def grp (g : Addr) (rr lr : Nat → Addr) (n j : Nat) : Addr := if j < 8 then g else if j < 16 then rr (n + 1) else if j < 24 then lr n else rr n
def off (j : Nat) : Nat := if j < 8 then j else if j < 16 then j - 8 else if j < 24 then j - 16 else j - 24
theorem getL {xs ys : List Int} {n j : Nat} (e : xs.length = n) (h : j < n) : (xs ++ ys).getD j 0 = xs.getD j 0 := by
  rw [List.getD_eq_getElem?_getD, List.getD_eq_getElem?_getD, List.getElem?_append_left (by rw [e]; exact h)]
theorem getR {xs ys : List Int} {n j : Nat} (e : xs.length = n) (h : n ≤ j) : (xs ++ ys).getD j 0 = ys.getD (j - n) 0 := by
  rw [List.getD_eq_getElem?_getD, List.getD_eq_getElem?_getD, List.getElem?_append_right (by rw [e]; exact h), e]
/-- where a register stands in the model -/
theorem MDx.row {τ : Tg} {i : Nat} {H : Hp} {m g r l : Addr} {rr lr : Nat → Addr} {A : Ab} (h : MDx τ i H m g r l rr lr A) (o : A.ok) {j : Nat} (hj : j < 32) :
    ∃ (row : List Int) (x : Nat × Nat × Nat), At τ H (grp g rr lr A.n j) (.lst (row.map V.int)) x ∧ x.1 = i ∧ off j < row.length ∧ row.getD (off j) 0 = A.view.getD j 0 ∧
      ∀ w, j ≠ 0 → MDx τ i (upd H (grp g rr lr A.n j) (.lst ((row.set (off j) w).map V.int))) m g r l rr lr (A.wr j w) := by
  have hg := o.g
  have hr := o.r
  have hl := o.l
  unfold grp off
  by_cases c1 : j < 8
  · simp only [if_pos c1]
    refine ⟨A.G, _, h.g, rfl, by rw [hg]; exact c1, (getL hg c1).symm, fun w h0 => ?_⟩
    have e : A.wr j w = { A with G := A.G.set j w } := by unfold Ab.wr; rw [if_neg h0, if_pos c1]
    rw [e]
    exact ⟨h.m.put h.g.2 (by simp), .set h.g.2, h.r.put h.g.2 (by simp), h.l.put h.g.2 (by simp), fun k hk => (h.rr k hk).put h.g.2 (by simp), fun k hk => (h.lr k hk).put h.g.2 (by simp)⟩
  simp only [if_neg c1]
  by_cases c2 : j < 16
  · simp only [if_pos c2]
    have hx := h.rr (A.n + 1) (by omega)
    refine ⟨A.R (A.n + 1), _, hx, rfl, by rw [hr]; omega, ?_, fun w h0 => ?_⟩
    · unfold Ab.view
      rw [getR hg (by omega), getL (hr _) (by omega)]
    have e : A.wr j w = { A with R := upF A.R (A.n + 1) ((A.R (A.n + 1)).set (j - 8) w) } := by unfold Ab.wr; rw [if_neg h0, if_neg c1, if_pos c2]
    rw [e]
    refine ⟨h.m.put hx.2 (by simp), h.g.put hx.2 (by simp), h.r.put hx.2 (by simp), h.l.put hx.2 (by simp), fun k hk => ?_, fun k hk => (h.lr k hk).put hx.2 (by simp)⟩
    show At _ _ _ (.lst ((upF A.R (A.n + 1) _ k).map V.int)) _
    by_cases c : k = A.n + 1
    · subst c; rw [upF_same]; exact .set hx.2
    · rw [upF_ne c]; exact (h.rr k hk).put hx.2 (by simp [c])
  simp only [if_neg c2]
  by_cases c3 : j < 24
  · simp only [if_pos c3]
    have hx := h.lr A.n (by omega)
    refine ⟨A.L A.n, _, hx, rfl, by rw [hl]; omega, ?_, fun w h0 => ?_⟩
    · unfold Ab.view
      rw [getR hg (by omega), getR (hr _) (by omega), getL (hl _) (by omega), show j - 8 - 8 = j - 16 by omega]
    have e : A.wr j w = { A with L := upF A.L A.n ((A.L A.n).set (j - 16) w) } := by unfold Ab.wr; rw [if_neg h0, if_neg c1, if_neg c2, if_pos c3]
    rw [e]
    refine ⟨h.m.put hx.2 (by simp), h.g.put hx.2 (by simp), h.r.put hx.2 (by simp), h.l.put hx.2 (by simp), fun k hk => (h.rr k hk).put hx.2 (by simp), fun k hk => ?_⟩
    show At _ _ _ (.lst ((upF A.L A.n _ k).map V.int)) _
    by_cases c : k = A.n
    · subst c; rw [upF_same]; exact .set hx.2
    · rw [upF_ne c]; exact (h.lr k hk).put hx.2 (by simp [c])
  simp only [if_neg c3]
  have hx := h.rr A.n (by omega)
  refine ⟨A.R A.n, _, hx, rfl, by rw [hr]; omega, ?_, fun w h0 => ?_⟩
  · unfold Ab.view
    rw [getR hg (by omega), getR (hr _) (by omega), getR (hl _) (by omega), show j - 8 - 8 - 8 = j - 24 by omega]
  have e : A.wr j w = { A with R := upF A.R A.n ((A.R A.n).set (j - 24) w) } := by unfold Ab.wr; rw [if_neg h0, if_neg c1, if_neg c2, if_neg c3]
  rw [e]
  refine ⟨h.m.put hx.2 (by simp), h.g.put hx.2 (by simp), h.r.put hx.2 (by simp), h.l.put hx.2 (by simp), fun k hk => ?_, fun k hk => (h.lr k hk).put hx.2 (by simp)⟩
  show At _ _ _ (.lst ((upF A.R A.n _ k).map V.int)) _
  by_cases c : k = A.n
  · subst c; rw [upF_same]; exact .set hx.2
  · rw [upF_ne c]; exact (h.rr k hk).put hx.2 (by simp [c])
def spFind : Sp := fun vs H Q _ => ∃ (τ : Tg) (i : Nat) (m g r l : Addr) (rr lr : Nat → Addr) (A : Ab) (j : Nat), vs = [.ref m, .int j] ∧ MDx τ i H m g r l rr lr A ∧ ∀ p, H p = none → Q (.ref p) (upd H p (.lst [.ref (grp g rr lr A.n j), .int (off j)]))
def spGet : Sp := fun vs H Q _ => ∃ (τ : Tg) (i : Nat) (m : Addr) (A : Ab) (j : Nat), vs = [.ref m, .int j] ∧ MD τ i H m A ∧ A.ok ∧ j < 32 ∧ ∀ H', Same H H' → Q (.int (A.view.getD j 0)) H'
def spSet : Sp := fun vs H Q _ => ∃ (τ : Tg) (i : Nat) (m : Addr) (A : Ab) (j : Nat) (w : Int), vs = [.ref m, .int j, .int w] ∧ MD τ i H m A ∧ A.ok ∧ j < 32 ∧ ∀ H', MD τ i H' m (A.wr j w) → Stp τ τ [i] H H' → Q .non H'
def spMDn : Sp := fun vs H Q _ => ∃ (τ : Tg) (i : Nat) (m : Addr) (A : Ab), vs = [.ref m] ∧ MD τ i H m A ∧ A.n ≤ 200 ∧ ∀ τ' H', MD τ' i H' m A.down → Stp τ τ' [i] H H' → Q .non H'
def spMUp : Sp := fun vs H Q _ => ∃ (τ : Tg) (i : Nat) (m : Addr) (A : Ab), vs = [.ref m] ∧ MD τ i H m A ∧ 0 < A.n ∧ ∀ H', MD τ i H' m A.up → Stp τ τ [i] H H' → Q .non H'
def spFresh : Sp := fun vs H Q _ => ∃ (τ : Tg) (i : Nat), vs = [] ∧ ∀ τ' H' m, MD τ' i H' m .zero → Stp τ τ' [] H H' → Q (.ref m) H'
section
variable {P : Program} {w : World} {K : PySem.W.Frag} {mg : Str → Option Value} {base : Heap} {a : Ad}
theorem ok_law_find (T : Txt K mg a) : FnOk P w K mg base CX0 1 a.f_law_find a.d_law_find ["model", "number"] spFind := by
  refine T.F__law_find.ok sc_law_find (fun vs H Q E h => ?_) (fun cdv A outer s H vs Q E hr h => ?_)
  · obtain ⟨_, _, _, _, _, _, _, _, _, _, rfl, _⟩ := h; rfl
  · obtain ⟨τ, i, m, g, r, l, rr, lr, A, j, rfl, M, q⟩ := h
    refine ⟨_, (C8.pss_cut (ps_set (i := 2) sc_law_find.nd rfl (Or.inl rfl) (pe_op op_sub (pe_callB call_len_seq (by rfl) T.b_len (by decide +kernel) (pa_cons (pe_ix ix_list (pv 0) pe_int (fun _ _ => rfl)) pa_nil)) pe_int))
      (pss_cons (ps_if (pt_cmpR op_lt (pv 1) pe_int (nomark _)) (pss_one (ps_ret (pe_lst (pa_cons (pe_ix ix_list (pv 0) pe_int (fun _ _ => rfl)) (pa_cons (pv 1) pa_nil))))) pss_nil)
      (pss_cons (ps_if (pt_cmpR op_lt (pv 1) pe_int (nomark _)) (pss_one (ps_ret (pe_lst (pa_cons (pe_ix ix_list (pe_ix ix_list (pv 0) pe_int (fun _ _ => rfl)) (pe_op op_add (pv 2) pe_int) (fun _ _ => rfl)) (pa_cons (pe_op op_sub (pv 1) pe_int) pa_nil))))) pss_nil)
      (pss_cons (ps_if (pt_cmpR op_lt (pv 1) pe_int (nomark _)) (pss_one (ps_ret (pe_lst (pa_cons (pe_ix ix_list (pe_ix ix_list (pv 0) pe_int (fun _ _ => rfl)) (pv 2) (fun _ _ => rfl)) (pa_cons (pe_op op_sub (pv 1) pe_int) pa_nil))))) pss_nil)
      (pss_one (ps_ret (pe_lst (pa_cons (pe_ix ix_list (pe_ix ix_list (pv 0) pe_int (fun _ _ => rfl)) (pv 2) (fun _ _ => rfl)) (pa_cons (pe_op op_sub (pv 1) pe_int) pa_nil))))))))), ?_⟩
    have el : (((List.range (A.n + 1)).map fun k => V.ref (lr k)).length : Int) - 1 = (A.n : Int) := by rw [rng_len]; omega
    refine ⟨fun σ H' => σ = [some (.ref m), some (.int j), some (.int A.n)] ∧ H' = H, ⟨_, rfl, _, _, _, _, rfl, rfl, SqL.of M.m.1, rfl, _, _, rfl, .inl (SqL.of M.l.1), _, _, rfl, rfl, ?_, rfl⟩, ?_⟩
    · exact congrArg (fun z => [some (V.ref m), some (V.int j), some (V.int z)]) el
    rintro σ H' ⟨rfl, rfl⟩
    unfold grp off at q
    refine ⟨_, rfl, _, _, rfl, rfl, _, rfl, ite3 (fun e => ?_) (fun e => ?_)⟩
    · have c1 : j < 8 := by have := of_decide_eq_true e; omega
      simp only [if_pos c1] at q
      exact ⟨_, rfl, _, _, _, _, rfl, rfl, SqL.of M.m.1, rfl, _, rfl, (by show 2 ≤ sizeLine; decide), q⟩
    have c1 : ¬ j < 8 := by have := of_decide_eq_false e; omega
    simp only [if_neg c1] at q
    refine ⟨_, rfl, _, _, rfl, rfl, _, rfl, ite3 (fun e => ?_) (fun e => ?_)⟩
    · have c2 : j < 16 := by have := of_decide_eq_true e; omega
      simp only [if_pos c2] at q
      rw [show ((j - 8 : Nat) : Int) = (j : Int) - 8 by omega] at q
      exact ⟨_, rfl, _, _, _, _, rfl, rfl, SqL.of M.m.1, rfl, _, rfl, _, _, rfl, rfl, _, _, _, _, rfl, rfl, SqL.of M.r.1, atI_nat (j := A.n + 1) (rng_at (by omega)), _, rfl, _, _, rfl, rfl, (by show 2 ≤ sizeLine; decide), q⟩
    have c2 : ¬ j < 16 := by have := of_decide_eq_false e; omega
    simp only [if_neg c2] at q
    refine ⟨_, rfl, _, _, rfl, rfl, _, rfl, ite3 (fun e => ?_) (fun e => ?_)⟩
    · have c3 : j < 24 := by have := of_decide_eq_true e; omega
      simp only [if_pos c3] at q
      rw [show ((j - 16 : Nat) : Int) = (j : Int) - 16 by omega] at q
      exact ⟨_, rfl, _, _, _, _, rfl, rfl, SqL.of M.m.1, rfl, _, rfl, _, _, _, _, rfl, rfl, SqL.of M.l.1, atI_nat (j := A.n) (rng_at (by omega)), _, rfl, _, _, rfl, rfl, (by show 2 ≤ sizeLine; decide), q⟩
    have c3 : ¬ j < 24 := by have := of_decide_eq_false e; omega
    simp only [if_neg c3] at q
    rw [show ((j - 24 : Nat) : Int) = (j : Int) - 24 by omega] at q
    exact ⟨_, rfl, _, _, _, _, rfl, rfl, SqL.of M.m.1, rfl, _, rfl, _, _, _, _, rfl, rfl, SqL.of M.r.1, atI_nat (j := A.n) (rng_at (by omega)), _, rfl, _, _, rfl, rfl, (by show 2 ≤ sizeLine; decide), q⟩
theorem ok_law_get (T : Txt K mg a) : FnOk P w K mg base CX0 2 a.f_law_get a.d_law_get ["model", "number"] spGet := by
  have G_law_find : FnOk P w K mg base CX0 1 _ _ _ _ := ok_law_find T
  refine T.F__law_get.ok sc_law_get (fun vs H Q E h => ?_) (fun cdv A outer s H vs Q E hr h => ?_)
  · obtain ⟨_, _, _, _, _, rfl, _⟩ := h; rfl
  · obtain ⟨τ, i, m, A, j, rfl, ⟨g, r, l, rr, lr, M⟩, ho, hj, q⟩ := h
    obtain ⟨row, x, hx, _, hlt, hv, _⟩ := M.row ho hj
    refine ⟨_, (pss_cons (ps_set (i := 2) sc_law_get.nd rfl (Or.inl rfl) (pe_call G_law_find (hr.mono (by decide)) rfl T.g__law_find T.k__law_find T.bd__law_find .nil pass0 (pa_cons (pv 0) (pa_cons (pv 1) pa_nil))))
      (pss_one (ps_ret (pe_ix ix_list (pe_ix ix_list (pv 2) pe_int (fun _ _ => rfl)) (pe_ix ix_list (pv 2) pe_int (fun _ _ => rfl)) (fun _ _ => rfl))))), ?_⟩
    refine ⟨_, rfl, _, rfl, τ, i, m, g, r, l, rr, lr, A, j, rfl, M, fun p np => ?_⟩
    have s1 := sN (Same.refl H) np (o := .lst [V.ref (grp g rr lr A.n j), V.int (off j)])
    have q' := q _ s1
    rw [← hv] at q'
    exact ⟨_, rfl, _, _, _, _, rfl, rfl, SqL.of upd_same, rfl, _, rfl, _, _, _, _, rfl, rfl, SqL.of upd_same, rfl, _, _, _, _, rfl, rfl, SqL.of (s1 _ _ hx.1), atI_nat (at_map hlt), q'⟩
theorem ok_law_set (T : Txt K mg a) : FnOk P w K mg base CX0 2 a.f_law_set a.d_law_set ["model", "number", "word"] spSet := by
  have G_law_find : FnOk P w K mg base CX0 1 _ _ _ _ := ok_law_find T
  refine T.F__law_set.ok sc_law_set (fun vs H Q E h => ?_) (fun cdv A outer s H vs Q E hr h => ?_)
  · obtain ⟨_, _, _, _, _, _, rfl, _⟩ := h; rfl
  · obtain ⟨τ, i, m, A, j, x, rfl, ⟨g, r, l, rr, lr, M0⟩, ho, hj, q⟩ := h
    refine ⟨_, (pss_cons (ps_set (i := 3) sc_law_set.nd rfl (Or.inl rfl) (pe_call G_law_find (hr.mono (by decide)) rfl T.g__law_find T.k__law_find T.bd__law_find .nil pass0 (pa_cons (pv 0) (pa_cons (pv 1) pa_nil))))
      (pss_cons (ps_set (i := 4) sc_law_set.nd rfl (Or.inl rfl) (pe_ix ix_list (pv 3) pe_int (fun _ _ => rfl)))
      (pss_one (ps_if (pt_cmpR op_gt (pv 1) pe_int (nomark _)) (pss_one (ps_asg (pv 2) (pg_sub (pv 4) (pe_ix ix_list (pv 3) pe_int (fun _ _ => rfl)) set_list))) pss_nil)))), ?_⟩
    refine ⟨_, rfl, _, rfl, τ, i, m, g, r, l, rr, lr, A, j, rfl, M0, fun p np => ?_⟩
    have s1 := sN (Same.refl H) np (o := .lst [V.ref (grp g rr lr A.n j), V.int (off j)])
    have S1 := Stp.same (τ := τ) (S := [i]) s1
    have M := M0.st (Stp.same (τ := τ) (S := []) s1) (by simp)
    obtain ⟨row, y, hx, hi, hlt, hv, hw⟩ := M.row ho hj
    refine ⟨_, rfl, _, _, _, _, rfl, rfl, SqL.of upd_same, rfl, ?_⟩
    refine ⟨_, rfl, _, _, rfl, rfl, _, rfl, ite3 (fun e => ?_) (fun e => ?_)⟩
    · have h0 : j ≠ 0 := by have := of_decide_eq_true e; omega
      refine ⟨_, rfl, _, rfl, _, rfl, _, _, _, _, rfl, rfl, SqL.of upd_same, rfl, _, _, _, _, rfl, rfl, hx.1, ixN_nat (by rw [List.length_map]; exact hlt), ?_⟩
      rw [set_int]
      exact q _ ⟨g, r, l, rr, lr, hw x h0⟩ (S1.put (mem1 hx.2 hi))
    · have h0 : j = 0 := by have := of_decide_eq_false e; omega
      have h1 := q _ (by rw [show A.wr j x = A from if_pos h0]; exact ⟨g, r, l, rr, lr, M⟩) S1
      exact h1
theorem ok_law_down (T : Txt K mg a) : FnOk P w K mg base CX0 1 a.f_law_down a.d_law_down ["model"] spMDn := by
  refine T.F__law_down.ok sc_law_down (fun vs H Q E h => ?_) (fun cdv A outer s H vs Q E hr h => ?_)
  · obtain ⟨_, _, _, _, rfl, _⟩ := h; rfl
  · obtain ⟨τ, i, m, A, rfl, ⟨g, r, l, rr, lr, M⟩, hn, q⟩ := h
    refine ⟨_, (pss_cons (ps_expr (pe_bm PySem.F.plainAttrs_list PySem.F.slot_list_append PySem.F.type_list_append mt_append (pe_ix ix_list (pv 0) pe_int (fun _ _ => rfl)) (pa_cons (pe_op op_rep (pe_lst (pa_cons pe_int pa_nil)) pe_int) pa_nil)))
      (pss_one (ps_expr (pe_bm PySem.F.plainAttrs_list PySem.F.slot_list_append PySem.F.type_list_append mt_append (pe_ix ix_list (pv 0) pe_int (fun _ _ => rfl)) (pa_cons (pe_op op_rep (pe_lst (pa_cons pe_int pa_nil)) pe_int) pa_nil))))), ?_⟩
    refine ⟨_, rfl, _, _, _, _, rfl, rfl, SqL.of M.m.1, rfl, .inl ⟨rfl, _, SqL.of M.r.1⟩, (by show 1 ≤ sizeLine; decide), fun p1 n1 => ?_⟩
    refine ⟨_, _, _, rfl, rfl, upd_same, by decide, by decide, (by show 1 * 8 ≤ sizeLine; decide), fun p n => ?_⟩
    rw [show (List.replicate (8 : Int).toNat [V.int 0]).flatten = z8.map V.int from rep_int 8]
    have s1 := sN (Same.refl H) n1 (o := .lst [V.int 0])
    have M1 := M.st (Stp.same (τ := τ) (S := []) s1) (by simp)
    have S1 := ((Stp.same (τ := τ) (S := [i]) s1)).new n (o := .lst (z8.map V.int)) (x := (i, 4, A.n + 2))
    have M2 := M1.st ((Stp.refl (τ := τ) (S := [])).new n (o := .lst (z8.map V.int)) (x := (i, 4, A.n + 2))) (by simp)
    have ap : At (tgN τ p (i, 4, A.n + 2)) (upd (upd H p1 (.lst [V.int 0])) p (.lst (z8.map V.int))) p _ _ := At.mk
    clear M1 M s1
    refine ⟨r, _, _, rfl, rfl, M2.r.1, sz (by rw [rng_len]; omega), ?_⟩
    rw [rng_app]
    generalize upd (upd H p1 (.lst [V.int 0])) p (.lst (z8.map V.int)) = H2 at *
    generalize tgN τ p (i, 4, A.n + 2) = τ2 at *
    have S2 := S1.put (o := .lst ((List.range (A.n + 2 + 1)).map fun k => V.ref (upA rr (A.n + 2) p k))) (mem1 M2.r.2 rfl)
    have c1 := M2.m.put M2.r.2 (u := .lst ((List.range (A.n + 2 + 1)).map fun k => V.ref (upA rr (A.n + 2) p k))) (by simp)
    have c2 := M2.g.put M2.r.2 (u := .lst ((List.range (A.n + 2 + 1)).map fun k => V.ref (upA rr (A.n + 2) p k))) (by simp)
    have c3 : At _ _ r _ _ := At.set (H := H2) (o := .lst ((List.range (A.n + 2 + 1)).map fun k => V.ref (upA rr (A.n + 2) p k))) M2.r.2
    have c4 := M2.l.put M2.r.2 (u := .lst ((List.range (A.n + 2 + 1)).map fun k => V.ref (upA rr (A.n + 2) p k))) (by simp)
    have c5 := fun k hk => (M2.rr k hk).put M2.r.2 (u := .lst ((List.range (A.n + 2 + 1)).map fun k => V.ref (upA rr (A.n + 2) p k))) (by simp)
    have c6 := fun k hk => (M2.lr k hk).put M2.r.2 (u := .lst ((List.range (A.n + 2 + 1)).map fun k => V.ref (upA rr (A.n + 2) p k))) (by simp)
    have cp := ap.put M2.r.2 (u := .lst ((List.range (A.n + 2 + 1)).map fun k => V.ref (upA rr (A.n + 2) p k))) (by simp)
    generalize upd H2 r (.lst ((List.range (A.n + 2 + 1)).map fun k => V.ref (upA rr (A.n + 2) p k))) = H3 at *
    clear M2 ap S1
    refine ⟨_, rfl, _, _, _, _, rfl, rfl, SqL.of c1.1, rfl, .inl ⟨rfl, _, SqL.of c4.1⟩, (by show 1 ≤ sizeLine; decide), fun p3 n3 => ?_⟩
    refine ⟨_, _, _, rfl, rfl, upd_same, by decide, by decide, (by show 1 * 8 ≤ sizeLine; decide), fun p4 n4 => ?_⟩
    rw [show (List.replicate (8 : Int).toNat [V.int 0]).flatten = z8.map V.int from rep_int 8]
    have s3 := sN (Same.refl H3) n3 (o := .lst [V.int 0])
    have S3 := (S2.tr (Stp.same s3)).new n4 (o := .lst (z8.map V.int)) (x := (i, 5, A.n + 1))
    have d4 := (c4.same s3).new n4 (u := .lst (z8.map V.int)) (y := (i, 5, A.n + 1))
    refine ⟨l, _, _, rfl, rfl, d4.1, sz (by rw [rng_len]; omega), ?_⟩
    rw [rng_app]
    refine q _ _ ⟨g, r, l, upA rr (A.n + 2) p, upA lr (A.n + 1) p4, ?_, ?_, ?_, ?_, fun k hk => ?_, fun k hk => ?_⟩ (S3.put (mem1 d4.2 rfl))
    · exact ((c1.same s3).new n4).put d4.2 (by simp)
    · exact ((c2.same s3).new n4).put d4.2 (by simp)
    · exact ((c3.same s3).new n4).put d4.2 (by simp)
    · exact .set d4.2
    · show At _ _ _ (.lst ((upF A.R (A.n + 2) z8 k).map V.int)) _
      by_cases e : k = A.n + 2
      · subst e
        rw [upF_same, upA_same]
        exact ((cp.same s3).new n4).put d4.2 (by simp)
      · have hk' : k < A.n + 1 + 2 := hk
        rw [upF_ne e, upA_ne e]
        exact (((c5 k (by omega)).same s3).new n4).put d4.2 (by simp)
    · show At _ _ _ (.lst ((upF A.L (A.n + 1) z8 k).map V.int)) _
      by_cases e : k = A.n + 1
      · subst e
        rw [upF_same, upA_same]
        exact At.mk.put d4.2 (by simp)
      · have hk' : k < A.n + 1 + 1 := hk
        rw [upF_ne e, upA_ne e]
        exact (((c6 k (by omega)).same s3).new n4).put d4.2 (by simp)
theorem ok_law_up (T : Txt K mg a) : FnOk P w K mg base CX0 1 a.f_law_up a.d_law_up ["model"] spMUp := by
  refine T.F__law_up.ok sc_law_up (fun vs H Q E h => ?_) (fun cdv A outer s H vs Q E hr h => ?_)
  · obtain ⟨_, _, _, _, rfl, _⟩ := h; rfl
  · obtain ⟨τ, i, m, A, rfl, ⟨g, r, l, rr, lr, M⟩, hn, q⟩ := h
    obtain ⟨n, hm⟩ : ∃ n, A.n = n + 1 := ⟨A.n - 1, by omega⟩
    have en : A.up.n = n := by show A.n - 1 = n; omega
    have Mr := M.r
    have Ml := M.l
    rw [hm] at Mr Ml
    refine ⟨_, (pss_cons (ps_expr (pe_bm0 PySem.F.plainAttrs_list PySem.F.slot_list_pop PySem.F.type_list_pop mt_pop (pe_ix ix_list (pv 0) pe_int (fun _ _ => rfl))))
      (pss_one (ps_expr (pe_bm0 PySem.F.plainAttrs_list PySem.F.slot_list_pop PySem.F.type_list_pop mt_pop (pe_ix ix_list (pv 0) pe_int (fun _ _ => rfl)))))), ?_⟩
    refine ⟨_, rfl, _, _, _, _, rfl, rfl, SqL.of M.m.1, rfl, .inl ⟨rfl, _, SqL.of Mr.1⟩, r, _, _, rfl, rfl, Mr.1, (by rw [rng_len]; exact rng_at (by omega)), ?_⟩
    rw [rng_drop]
    have S2 := (Stp.refl (τ := τ) (S := [i]) (H := H)).put (o := .lst ((List.range (n + 1 + 1)).map fun k => V.ref (rr k))) (mem1 Mr.2 rfl)
    have c1 := M.m.put Mr.2 (u := .lst ((List.range (n + 1 + 1)).map fun k => V.ref (rr k))) (by simp)
    have c2 := M.g.put Mr.2 (u := .lst ((List.range (n + 1 + 1)).map fun k => V.ref (rr k))) (by simp)
    have c3 : At _ _ r _ _ := At.set (H := H) (o := .lst ((List.range (n + 1 + 1)).map fun k => V.ref (rr k))) Mr.2
    have c4 := Ml.put Mr.2 (u := .lst ((List.range (n + 1 + 1)).map fun k => V.ref (rr k))) (by simp)
    have c5 := fun k hk => (M.rr k hk).put Mr.2 (u := .lst ((List.range (n + 1 + 1)).map fun k => V.ref (rr k))) (by simp)
    have c6 := fun k hk => (M.lr k hk).put Mr.2 (u := .lst ((List.range (n + 1 + 1)).map fun k => V.ref (rr k))) (by simp)
    refine ⟨_, rfl, _, _, _, _, rfl, rfl, SqL.of c1.1, rfl, .inl ⟨rfl, _, SqL.of c4.1⟩, l, _, _, rfl, rfl, c4.1, (by rw [rng_len]; exact rng_at (by omega)), ?_⟩
    rw [rng_drop]
    refine q _ ⟨g, r, l, rr, lr, c1.put c4.2 (by simp), c2.put c4.2 (by simp), ?_, ?_, fun k hk => ?_, fun k hk => ?_⟩ (S2.put (mem1 c4.2 rfl))
    · rw [en]; exact c3.put c4.2 (by simp)
    · rw [en]; exact .set c4.2
    · rw [en] at hk; exact (c5 k (by omega)).put c4.2 (by simp)
    · rw [en] at hk; exact (c6 k (by omega)).put c4.2 (by simp)
end

/-! ### words, reads, deeds -/
def spIsI : Sp := fun vs H Q _ => ∃ n : Int, vs = [.int n] ∧ Q (.bl true) H
def spWordG (K : PySem.W.Frag) : Sp := fun vs H Q _ => ∃ (τ : Tg) (st sa : Addr) (ns : List Int), vs = [.ref st] ∧ StG K τ H st sa ns ∧ ∀ (τ' : Tg) (v : Int) (H' : Hp), -2147483648 ≤ v → v ≤ 2147483647 → StG K τ' H' st sa ns → Stp τ τ' [4] H H' → Q (.int v) H'
theorem w4 (j : Nat) (h : j < 4) : ∃ x, [V.int 2147483647, V.int (-2147483648), V.int 2147483646, V.int (-2147483647)][j]? = some (V.int x) ∧ -2147483648 ≤ x ∧ x ≤ 2147483647 := by
  match j, h with
  | 0, _ => exact ⟨_, rfl, by decide, by decide⟩
  | 1, _ => exact ⟨_, rfl, by decide, by decide⟩
  | 2, _ => exact ⟨_, rfl, by decide, by decide⟩
  | 3, _ => exact ⟨_, rfl, by decide, by decide⟩
theorem neF {x y : Int} (h : x = y) : (!decide (V.int x = V.int y)) = false := by rw [h]; simp
theorem eqT {x y : Int} (h : x = y) : decide (V.int x = V.int y) = true := by rw [h]; simp
theorem nonT : decide (V.non = V.non) = true := decide_eq_true rfl
section
variable {P : Program} {w : World} {K : PySem.W.Frag} {mg : Str → Option Value} {base : Heap} {a : Ad}
theorem ok_law_is_integer (T : Txt K mg a) : FnOk P w K mg base CX0 1 a.f_law_is_integer a.d_law_is_integer ["actual"] spIsI := by
  refine T.F__law_is_integer.ok sc_law_is_integer (fun vs H Q E h => ?_) (fun cdv A outer s H vs Q E hr h => ?_)
  · obtain ⟨_, rfl, _⟩ := h; rfl
  · obtain ⟨n, rfl, q⟩ := h
    refine ⟨_, (pss_one (ps_ret (pe_and (pe_callB call_isi (by rfl) T.b_isinstance (by decide +kernel) (pa_cons (pv 0) (pa_cons (pe_bltn (v := .ty "int") (by rfl) T.b_int (by decide +kernel) rfl) pa_nil))) (pe_one (pe_not (pe_callB call_isi (by rfl) T.b_isinstance (by decide +kernel) (pa_cons (pv 0) (pa_cons (pe_bltn (v := .ty "bool") (by rfl) T.b_bool (by decide +kernel) rfl) pa_nil)))))))), ?_⟩
    refine ⟨_, rfl, _, _, _, _, _, rfl, .ty _, .base (.int _), kit_ty (by decide +kernel : kitB "int" "int" = some true), _, rfl, iteT ?_⟩
    exact ⟨_, rfl, _, _, _, _, _, rfl, .ty _, .base (.int _), kit_ty (by decide +kernel : kitB "int" "bool" = some false), _, rfl, q⟩
theorem ok_law_word (T : Txt K mg a) : FnOk P w K mg base CX0 2 a.f_law_word a.d_law_word ["state"] (spWordG K) := by
  have G_law_pick : FnOk P w K mg base CX0 1 _ _ _ _ := ok_pickG T
  refine T.F__law_word.ok sc_law_word (fun vs H Q E h => ?_) (fun cdv A outer s H vs Q E hr h => ?_)
  · obtain ⟨_, _, _, _, rfl, _⟩ := h; rfl
  · obtain ⟨τ, st, sa, ns, rfl, S, q⟩ := h
    refine ⟨_, (pss_cons (ps_set (i := 1) sc_law_word.nd rfl (Or.inl rfl) (pe_call G_law_pick (hr.mono (by decide)) rfl T.g__law_pick T.k__law_pick T.bd__law_pick .nil pass0 (pa_cons (pv 0) (pa_cons pe_int pa_nil))))
      (pss_cons (ps_if (pt_cmpR op_eq (pv 1) pe_int (nomark _)) (pss_one (ps_ret (pe_ix ix_list (pe_lst (pa_cons pe_int (pa_cons (pe_un un_neg pe_int) (pa_cons pe_int (pa_cons (pe_un un_neg pe_int) pa_nil))))) (pe_call G_law_pick (hr.mono (by decide)) rfl T.g__law_pick T.k__law_pick T.bd__law_pick .nil pass0 (pa_cons (pv 0) (pa_cons pe_int pa_nil))) (fun _ _ => rfl)))) pss_nil)
      (pss_cons (ps_if (pt_cmpR op_eq (pv 1) pe_int (nomark _)) (pss_one (ps_ret (pe_op op_sub (pe_call G_law_pick (hr.mono (by decide)) rfl T.g__law_pick T.k__law_pick T.bd__law_pick .nil pass0 (pa_cons (pv 0) (pa_cons pe_int pa_nil))) pe_int))) pss_nil)
      (pss_cons (ps_if (pt_cmpR op_eq (pv 1) pe_int (nomark _)) (pss_one (ps_ret (pe_op op_sub (pe_call G_law_pick (hr.mono (by decide)) rfl T.g__law_pick T.k__law_pick T.bd__law_pick .nil pass0 (pa_cons (pv 0) (pa_cons pe_int pa_nil))) pe_int))) pss_nil)
      (pss_one (ps_ret (pe_op op_sub (pe_call G_law_pick (hr.mono (by decide)) rfl T.g__law_pick T.k__law_pick T.bd__law_pick .nil pass0 (pa_cons (pv 0) (pa_cons pe_int pa_nil))) pe_int))))))), ?_⟩
    refine ⟨_, rfl, τ, st, sa, ns, 5, rfl, S, by decide, by decide, fun k H1 k0 k7 S1 F1 => ?_⟩
    refine ⟨_, rfl, rfl, _, rfl, ite3 (fun e => ?_) (fun e => ?_)⟩
    · refine ⟨_, rfl, _, rfl, (by show 4 ≤ sizeLine; decide), fun p np => ?_⟩
      have F2 := F1.new np (o := .lst [V.int 2147483647, V.int (-2147483648), V.int 2147483646, V.int (-2147483647)]) (x := (9, 0, 0))
      have S2 := S1.step ((Stp.refl (τ := τ) (S := [])).new np (o := .lst [V.int 2147483647, V.int (-2147483648), V.int 2147483646, V.int (-2147483647)]) (x := (9, 0, 0))) (by simp) (by simp)
      have ap : At (tgN τ p (9, 0, 0)) (upd H1 p (.lst [V.int 2147483647, V.int (-2147483648), V.int 2147483646, V.int (-2147483647)])) p _ _ := At.mk
      refine ⟨_, rfl, _, st, sa, ns, 4, rfl, S2, by decide, by decide, fun v H3 v0 v1 S3 F3 => ?_⟩
      obtain ⟨j, rfl⟩ : ∃ j : Nat, v = (j : Int) := ⟨v.toNat, by omega⟩
      obtain ⟨x, hx, x0, x1⟩ := w4 j (by omega)
      exact ⟨_, _, _, _, rfl, rfl, SqL.of (ap.st F3 (by decide)).1, atI_nat hx, q _ _ _ x0 x1 S3 (F2.tr F3)⟩
    refine ⟨_, rfl, rfl, _, rfl, ite3 (fun e => ?_) (fun e => ?_)⟩
    · refine ⟨_, rfl, τ, st, sa, ns, 4294967296, rfl, S1, by decide, by decide, fun v H2 v0 v1 S2 F2 => ⟨_, _, rfl, rfl, ?_⟩⟩
      exact q _ _ _ (by omega) (by omega) S2 (F1.tr F2)
    refine ⟨_, rfl, rfl, _, rfl, ite3 (fun e => ?_) (fun e => ?_)⟩
    · refine ⟨_, rfl, τ, st, sa, ns, 131072, rfl, S1, by decide, by decide, fun v H2 v0 v1 S2 F2 => ⟨_, _, rfl, rfl, ?_⟩⟩
      exact q _ _ _ (by omega) (by omega) S2 (F1.tr F2)
    · refine ⟨_, rfl, τ, st, sa, ns, 13, rfl, S1, by decide, by decide, fun v H2 v0 v1 S2 F2 => ⟨_, _, rfl, rfl, ?_⟩⟩
      exact q _ _ _ (by omega) (by omega) S2 (F1.tr F2)
end

def spReads (C : Addr) : Sp := fun vs H Q _ => ∃ (τ : Tg) (i i' : Nat) (t m : Addr) (A : Ab), vs = [.ref t, .ref m] ∧ TW C τ i H t A ∧ MD τ i' H m A ∧ A.ok ∧ ∀ H', Same H H' → Q (.bl true) H'
def spDeed (K : PySem.W.Frag) (C : Addr) : Sp := fun vs H Q _ => ∃ (τ : Tg) (st sa : Addr) (ns : List Int) (i i' : Nat) (t m : Addr) (A : Ab), vs = [.ref st, .ref t, .ref m] ∧ StG K τ H st sa ns ∧ TW C τ i H t A ∧ MD τ i' H m A ∧ A.ok ∧ A.n ≤ 200 ∧ i < 4 ∧ i' < 4 ∧ i ≠ i' ∧
  ∀ τ' H' A', StG K τ' H' st sa ns → TW C τ' i H' t A' → MD τ' i' H' m A' → A'.ok → A'.n ≤ A.n + 1 → Stp τ τ' [i, i', 4] H H' → Q (.bl true) H'
section
variable {P : Program} {w : World} {K : PySem.W.Frag} {mg : Str → Option Value} {base : Heap} {a : Ad}
theorem ok_law_fresh (T : Txt K mg a) : FnOk P w K mg base CX0 1 a.f_law_fresh a.d_law_fresh [] spFresh := by
  refine T.F__law_fresh.ok sc_law_fresh (fun vs H Q E h => ?_) (fun cdv A outer s H vs Q E hr h => ?_)
  · obtain ⟨_, _, rfl, _⟩ := h; rfl
  · obtain ⟨τ, i, rfl, q⟩ := h
    refine ⟨_, (pss_one (ps_ret (pe_lst (pa_cons (pe_op op_rep (pe_lst (pa_cons pe_int pa_nil)) pe_int) (pa_cons (pe_lst (pa_cons (pe_op op_rep (pe_lst (pa_cons pe_int pa_nil)) pe_int) (pa_cons (pe_op op_rep (pe_lst (pa_cons pe_int pa_nil)) pe_int) pa_nil))) (pa_cons (pe_lst (pa_cons (pe_op op_rep (pe_lst (pa_cons pe_int pa_nil)) pe_int) pa_nil)) pa_nil)))))), ?_⟩
    have er : (List.replicate (8 : Int).toNat [V.int 0]).flatten = z8.map V.int := rep_int 8
    -- g
    refine ⟨(by show 1 ≤ sizeLine; decide), fun b1 m1 => ⟨_, _, _, rfl, rfl, upd_same, by decide, by decide, (by show 1 * 8 ≤ sizeLine; decide), fun g ng => ?_⟩⟩
    rw [er]
    have S1 := ((Stp.same (τ := τ) (S := []) (sN (Same.refl H) m1 (o := .lst [V.int 0])))).new ng (o := .lst (z8.map V.int)) (x := (i, 1, 0))
    have ag : At (tgN τ g (i, 1, 0)) (upd (upd H b1 (.lst [V.int 0])) g (.lst (z8.map V.int))) g _ _ := At.mk
    generalize upd (upd H b1 (.lst [V.int 0])) g (.lst (z8.map V.int)) = H1 at S1 ag ⊢
    generalize tgN τ g (i, 1, 0) = τ1 at S1 ag
    -- two rows
    refine ⟨(by show 1 ≤ sizeLine; decide), fun b2 m2 => ⟨_, _, _, rfl, rfl, upd_same, by decide, by decide, (by show 1 * 8 ≤ sizeLine; decide), fun r0 nr0 => ?_⟩⟩
    rw [er]
    have s2 := sN (Same.refl H1) m2 (o := .lst [V.int 0])
    have S2 := (S1.tr (Stp.same s2)).new nr0 (o := .lst (z8.map V.int)) (x := (i, 4, 0))
    have ag := (ag.same s2).new nr0 (u := .lst (z8.map V.int)) (y := (i, 4, 0))
    have a0 : At (tgN τ1 r0 (i, 4, 0)) (upd (upd H1 b2 (.lst [V.int 0])) r0 (.lst (z8.map V.int))) r0 _ _ := At.mk
    generalize upd (upd H1 b2 (.lst [V.int 0])) r0 (.lst (z8.map V.int)) = H2 at S2 ag a0 ⊢
    generalize tgN τ1 r0 (i, 4, 0) = τ2 at S2 ag a0
    clear S1 s2
    refine ⟨(by show 1 ≤ sizeLine; decide), fun b3 m3 => ⟨_, _, _, rfl, rfl, upd_same, by decide, by decide, (by show 1 * 8 ≤ sizeLine; decide), fun r1 nr1 => ?_⟩⟩
    rw [er]
    have s3 := sN (Same.refl H2) m3 (o := .lst [V.int 0])
    have S3 := (S2.tr (Stp.same s3)).new nr1 (o := .lst (z8.map V.int)) (x := (i, 4, 1))
    have ag := (ag.same s3).new nr1 (u := .lst (z8.map V.int)) (y := (i, 4, 1))
    have a0 := (a0.same s3).new nr1 (u := .lst (z8.map V.int)) (y := (i, 4, 1))
    have a1 : At (tgN τ2 r1 (i, 4, 1)) (upd (upd H2 b3 (.lst [V.int 0])) r1 (.lst (z8.map V.int))) r1 _ _ := At.mk
    generalize upd (upd H2 b3 (.lst [V.int 0])) r1 (.lst (z8.map V.int)) = H3 at S3 ag a0 a1 ⊢
    generalize tgN τ2 r1 (i, 4, 1) = τ3 at S3 ag a0 a1
    clear S2 s3
    refine ⟨(by show 2 ≤ sizeLine; decide), fun r nr => ?_⟩
    have S4 := S3.new nr (o := .lst [V.ref r0, V.ref r1]) (x := (i, 2, 0))
    have ag := ag.new nr (u := .lst [V.ref r0, V.ref r1]) (y := (i, 2, 0))
    have a0 := a0.new nr (u := .lst [V.ref r0, V.ref r1]) (y := (i, 2, 0))
    have a1 := a1.new nr (u := .lst [V.ref r0, V.ref r1]) (y := (i, 2, 0))
    have ar : At (tgN τ3 r (i, 2, 0)) (upd H3 r (.lst [V.ref r0, V.ref r1])) r _ _ := At.mk
    generalize upd H3 r (.lst [V.ref r0, V.ref r1]) = H4 at S4 ag a0 a1 ar ⊢
    generalize tgN τ3 r (i, 2, 0) = τ4 at S4 ag a0 a1 ar
    clear S3
    -- the locals
    refine ⟨(by show 1 ≤ sizeLine; decide), fun b5 m5 => ⟨_, _, _, rfl, rfl, upd_same, by decide, by decide, (by show 1 * 8 ≤ sizeLine; decide), fun l0 nl0 => ?_⟩⟩
    rw [er]
    have s5 := sN (Same.refl H4) m5 (o := .lst [V.int 0])
    have S5 := (S4.tr (Stp.same s5)).new nl0 (o := .lst (z8.map V.int)) (x := (i, 5, 0))
    have ag := (ag.same s5).new nl0 (u := .lst (z8.map V.int)) (y := (i, 5, 0))
    have a0 := (a0.same s5).new nl0 (u := .lst (z8.map V.int)) (y := (i, 5, 0))
    have a1 := (a1.same s5).new nl0 (u := .lst (z8.map V.int)) (y := (i, 5, 0))
    have ar := (ar.same s5).new nl0 (u := .lst (z8.map V.int)) (y := (i, 5, 0))
    have al0 : At (tgN τ4 l0 (i, 5, 0)) (upd (upd H4 b5 (.lst [V.int 0])) l0 (.lst (z8.map V.int))) l0 _ _ := At.mk
    generalize upd (upd H4 b5 (.lst [V.int 0])) l0 (.lst (z8.map V.int)) = H5 at S5 ag a0 a1 ar al0 ⊢
    generalize tgN τ4 l0 (i, 5, 0) = τ5 at S5 ag a0 a1 ar al0
    clear S4 s5
    refine ⟨(by show 1 ≤ sizeLine; decide), fun l nl => ?_⟩
    refine ⟨(by show 3 ≤ sizeLine; decide), fun m nm => ?_⟩
    have S6 := (S5.new nl (o := .lst [V.ref l0]) (x := (i, 3, 0))).new nm (o := .lst [V.ref g, V.ref r, V.ref l]) (x := (i, 0, 0))
    refine q _ _ m ⟨g, r, l, fun k => if k = 0 then r0 else r1, fun _ => l0, At.mk, ?_, ?_, ?_, fun k hk => ?_, fun k hk => ?_⟩ S6
    · exact (ag.new nl).new nm
    · exact (ar.new nl).new nm
    · exact At.mk.new nm
    · have hk : k < 2 := hk
      obtain rfl | rfl : k = 0 ∨ k = 1 := by omega
      · exact (a0.new nl).new nm
      · exact (a1.new nl).new nm
    · have hk : k < 1 := hk
      obtain rfl : k = 0 := by omega
      exact (al0.new nl).new nm
theorem ok_law_reads (T : Txt K mg a) : FnOk P w K mg base CX0 3 a.f_law_reads a.d_law_reads ["tower", "model"] (spReads a.C_Tower) := by
  have G_law_is_integer : FnOk P w K mg base CX0 1 _ _ _ _ := ok_law_is_integer T
  have G_law_get : FnOk P w K mg base CX0 2 _ _ _ _ := ok_law_get T
  have G_Tower_read : FnOk P w K mg base CX0 1 _ _ _ _ := ok_Tower_read T
  have G_Tower_blocked_down : FnOk P w K mg base CX0 1 _ _ _ _ := ok_Tower_blocked_down T
  have G_Tower_blocked_up : FnOk P w K mg base CX0 1 _ _ _ _ := ok_Tower_blocked_up T
  refine T.F__law_reads.ok sc_law_reads (fun vs H Q E h => ?_) (fun cdv A outer s H vs Q E hr h => ?_)
  · obtain ⟨_, _, _, _, _, _, rfl, _⟩ := h; rfl
  · obtain ⟨τ, i, i', t, m, A, rfl, W0, M0, ho, q⟩ := h
    refine ⟨_, (pss_cons (ps_for PassesOwn.never rfl (pi_range1 rfl T.b_range (pa_cons pe_int pa_nil)) (pg_name (i := 2) sc_law_reads.nd rfl (Or.inl rfl)) (pss_cons (ps_set (i := 3) sc_law_reads.nd rfl (Or.inl rfl) (pe_meth (pv 0) T.cl_Tower T.m_Tower_read G_Tower_read (hr.mono (by decide)) T.bd_Tower_read .nil pass0 (pa_cons (pv 2) pa_nil)))
      (pss_one (ps_if (PW.pt (pw_or (pt_not (pt_val (pe_call G_law_is_integer (hr.mono (by decide)) rfl T.g__law_is_integer T.k__law_is_integer T.bd__law_is_integer .nil pass0 (pa_cons (pv 3) pa_nil)))) (pw_or1 (pt_cmpR op_ne (pv 3) (pe_call G_law_get (hr.mono (by decide)) rfl T.g__law_get T.k__law_get T.bd__law_get .nil pass0 (pa_cons (pv 1) (pa_cons (pv 2) pa_nil))) (nomark _))))) (pss_one (ps_ret pe_bl)) pss_nil))))
      (pss_cons (ps_if (PW.pt (pw_or (pt_cmpR op_notBl (pe_meth0 (pv 0) T.cl_Tower T.m_Tower_blocked_down G_Tower_blocked_down (hr.mono (by decide)) T.bd_Tower_blocked_down .nil pass0) pe_bl (nomark _)) (pw_or1 (pt_cmpR op_notBl (pe_meth0 (pv 0) T.cl_Tower T.m_Tower_blocked_up G_Tower_blocked_up (hr.mono (by decide)) T.bd_Tower_blocked_up .nil pass0) pe_bl (nomark _))))) (pss_one (ps_ret pe_bl)) pss_nil)
      (pss_cons (ps_set (i := 4) sc_law_reads.nd rfl (Or.inl rfl) (pe_lst (pa_cons (pe_fld (pv 0) rfl) (pa_cons (pe_fld (pv 0) rfl) (pa_cons (pe_fld (pv 0) rfl) pa_nil)))))
      (pss_cons (ps_for PassesOwn.never rfl (pi_list (pv 4)) (pg_name (i := 2) sc_law_reads.nd rfl (Or.inl rfl)) (pss_one (ps_if (pt_not (pt_val (pe_call G_law_is_integer (hr.mono (by decide)) rfl T.g__law_is_integer T.k__law_is_integer T.bd__law_is_integer .nil pass0 (pa_cons (pv 2) pa_nil)))) (pss_one (ps_ret pe_bl)) pss_nil)))
      (pss_one (ps_ret (pe_cmpR (op_eqD hr.units) (pv 4) (pe_lst (pa_cons (pe_op op_sub (pe_callB call_len_seq (by rfl) T.b_len (by decide +kernel) (pa_cons (pe_ix ix_list (pv 1) pe_int (fun _ _ => rfl)) pa_nil)) pe_int) (pa_cons pe_int (pa_cons pe_int pa_nil)))) (nomark _)))))))), ?_⟩
    refine ⟨32, rfl, by decide, by decide, for_range (lo := 0) (n := 32) (fun _ σ H' => Same H H' ∧ ∃ x y, σ = [some (.ref t), some (.ref m), x, y, none]) ⟨Same.refl H, none, none, rfl⟩ ?_ ?_⟩
    · rintro k σ H1 hk ⟨s1, x, y, rfl⟩
      have e0 : (0 : Int) + (k : Int) = (k : Int) := Int.zero_add _
      rw [e0]
      have W := W0.st (Stp.same (τ := τ) (S := []) s1) (by simp)
      have M := M0.st (Stp.same (τ := τ) (S := []) s1) (by simp)
      have W1 := W
      obtain ⟨dx, vw, ab, ar, Wx⟩ := W1
      refine ⟨_, rfl, t, dx, _, rfl, Wx.ob.1, twf_no_read _ _ _ _ _, _, rfl, τ, i, t, A, k, rfl, W, ho, hk, ?_⟩
      refine ⟨_, rfl, _, rfl, _, rfl, iteF ⟨_, rfl, _, rfl, _, rfl, τ, i', m, A, k, rfl, M, ho, hk, fun H2 s2 => ⟨rfl, _, rfl, ?_⟩⟩⟩
      rw [neF rfl]
      exact iteF ⟨s1.trans s2, _, _, rfl⟩
    · rintro σ H1 ⟨s1, x, y, rfl⟩
      have W := W0.st (Stp.same (τ := τ) (S := []) s1) (by simp)
      have M := M0.st (Stp.same (τ := τ) (S := []) s1) (by simp)
      obtain ⟨dx, vw, ab, ar, Wx⟩ := W
      obtain ⟨g, r, l, rr, lr, Mx⟩ := M
      refine ⟨_, rfl, t, dx, _, rfl, Wx.ob.1, twf_no_blocked_down _ _ _ _ _, _, rfl, _, _, rfl, rfl, _, rfl, iteF ?_⟩
      refine ⟨_, rfl, t, dx, _, rfl, Wx.ob.1, twf_no_blocked_up _ _ _ _ _, _, rfl, _, _, rfl, rfl, _, rfl, iteF ?_⟩
      refine ⟨_, rfl, t, a.C_Tower, dx, _, _, rfl, Wx.ob.1, T.cl_Tower, T.n_Tower_depth, twf_depth _ _ _ _ _, _, rfl, t, a.C_Tower, dx, _, _, rfl, Wx.ob.1, T.cl_Tower, T.n_Tower_spills, twf_spills _ _ _ _ _,
        _, rfl, t, a.C_Tower, dx, _, _, rfl, Wx.ob.1, T.cl_Tower, T.n_Tower_fills, twf_fills _ _ _ _ _, (by show 3 ≤ sizeLine; decide), fun p np => ?_⟩
      have hp : upd H1 p (.lst [V.int A.n, V.int 0, V.int 0]) p = some (.lst [V.int A.n, V.int 0, V.int 0]) := upd_same
      have s2 := sN (Same.refl H1) np (o := .lst [V.int A.n, V.int 0, V.int 0])
      have hm := s2 _ _ Mx.m.1
      have hl := s2 _ _ Mx.l.1
      generalize upd H1 p (.lst [V.int A.n, V.int 0, V.int 0]) = H2 at hp s2 hm hl ⊢
      refine ⟨_, rfl, _, rfl, ⟨_, SqL.of hp⟩, for_list (K := K) (a := p) (xs := [V.int A.n, V.int 0, V.int 0]) (fun _ σ H' => H' = H2 ∧ ∃ z, σ = [some (.ref t), some (.ref m), z, y, some (.ref p)]) ⟨rfl, _, rfl⟩ (fun _ _ _ _ ⟨e, _⟩ => by rw [e]; exact SqL.of hp) ?_ ?_⟩
      · rintro k v σ H' hv ⟨rfl, z, rfl⟩
        obtain ⟨c, rfl⟩ : ∃ c, v = V.int c := by
          match k, hv with
          | 0, hv => exact ⟨_, (Option.some.inj hv).symm⟩
          | 1, hv => exact ⟨_, (Option.some.inj hv).symm⟩
          | 2, hv => exact ⟨_, (Option.some.inj hv).symm⟩
          | k + 3, hv => simp at hv
        exact ⟨_, rfl, c, rfl, _, rfl, iteF ⟨rfl, _, rfl⟩⟩
      · rintro σ H' ⟨rfl, z, rfl⟩
        refine ⟨_, rfl, _, rfl, _, _, _, _, rfl, rfl, SqL.of hm, rfl, _, _, rfl, .inl (SqL.of hl), _, _, rfl, rfl, (by show 3 ≤ sizeLine; decide), fun p2 n2 => ?_⟩
        have el : (((List.range (A.n + 1)).map fun k => V.ref (lr k)).length : Int) - 1 = (A.n : Int) := by rw [rng_len]; omega
        have s3 := sN (Same.refl H') n2 (o := .lst [V.int ((((List.range (A.n + 1)).map fun k => V.ref (lr k)).length : Int) - 1), V.int 0, V.int 0])
        refine ⟨_, _, .lst (SqL.of (s3 _ _ hp)) (.cons (.int _) (.cons (.int _) (.cons (.int _) .nil))), .lst (SqL.of upd_same) (.cons (.int _) (.cons (.int _) (.cons (.int _) .nil))), rfl, rfl, ?_⟩
        have q' := q _ ((s1.trans s2).trans s3)
        have ee : PyData.eqv (.list [.int (A.n : Int), .int 0, .int 0]) (.list [.int ((((List.range (A.n + 1)).map fun k => V.ref (lr k)).length : Int) - 1), .int 0, .int 0]) = true := by
          rw [el]
          exact SeqAt.eqv_refl _ rfl
        rw [← ee] at q'
        exact q'
theorem ok_law_deed (T : Txt K mg a) : FnOk P w K mg base CX0 4 a.f_law_deed a.d_law_deed ["state", "tower", "model"] (spDeed K a.C_Tower) := by
  have G_law_pick : FnOk P w K mg base CX0 1 _ _ _ _ := ok_pickG T
  have G_law_word : FnOk P w K mg base CX0 2 _ _ _ _ := ok_law_word T
  have G_law_is_integer : FnOk P w K mg base CX0 1 _ _ _ _ := ok_law_is_integer T
  have G_law_get : FnOk P w K mg base CX0 2 _ _ _ _ := ok_law_get T
  have G_law_set : FnOk P w K mg base CX0 2 _ _ _ _ := ok_law_set T
  have G_law_down : FnOk P w K mg base CX0 1 _ _ _ _ := ok_law_down T
  have G_law_up : FnOk P w K mg base CX0 1 _ _ _ _ := ok_law_up T
  have G_law_reads : FnOk P w K mg base CX0 3 _ _ _ _ := ok_law_reads T
  have G_Tower_read : FnOk P w K mg base CX0 1 _ _ _ _ := ok_Tower_read T
  have G_Tower_write : FnOk P w K mg base CX0 1 _ _ _ _ := ok_Tower_write T
  have G_Tower_shift_down : FnOk P w K mg base CX0 2 _ _ _ _ := ok_Tower_shift_down T
  have G_Tower_shift_up : FnOk P w K mg base CX0 2 _ _ _ _ := ok_Tower_shift_up T
  refine T.F__law_deed.ok sc_law_deed (fun vs H Q E h => ?_) (fun cdv A outer s H vs Q E hr h => ?_)
  · obtain ⟨_, _, _, _, _, _, _, _, _, rfl, _⟩ := h; rfl
  · obtain ⟨τ, st, sa, ns, i, i', t, m, A, rfl, S, W, M, ho, hn, i4, i4', hii, q⟩ := h
    have n1 : i ∉ [4] := by simp; omega
    have n2 : i' ∉ [4] := by simp; omega
    have n3 : i ∉ [i'] := by simpa using hii
    have n4 : i' ∉ [i] := by simpa using Ne.symm hii
    have n5 : 4 ∉ [i] := by simp; omega
    have n6 : 6 ∉ [i] := by simp; omega
    have n7 : 4 ∉ [i'] := by simp; omega
    have n8 : 6 ∉ [i'] := by simp; omega
    have u1 : ∀ x ∈ [i], x ∈ [i, i', 4] := by simp
    have u2 : ∀ x ∈ [i'], x ∈ [i, i', 4] := by simp
    have u3 : ∀ x ∈ [4], x ∈ [i, i', 4] := by simp
    refine ⟨_, (pss_cons (ps_set (i := 3) sc_law_deed.nd rfl (Or.inl rfl) (pe_call G_law_pick (hr.mono (by decide)) rfl T.g__law_pick T.k__law_pick T.bd__law_pick .nil pass0 (pa_cons (pv 0) (pa_cons pe_int pa_nil))))
      (pss_cons (ps_if (pt_cmpR op_lt (pv 3) pe_int (nomark _)) (pss_cons (ps_expr (pe_call G_law_down (hr.mono (by decide)) rfl T.g__law_down T.k__law_down T.bd__law_down .nil pass0 (pa_cons (pv 2) pa_nil)))
      (pss_one (ps_ret (pe_cmpR op_isN (pe_meth0 (pv 1) T.cl_Tower T.m_Tower_shift_down G_Tower_shift_down (hr.mono (by decide)) T.bd_Tower_shift_down .nil pass0) pe_non (nomark _))))) pss_nil)
      (C8.pss_cut (ps_if (PW.pt (pw_and (pt_cmpR op_eq (pv 3) pe_int (nomark _)) (pw_and1 (pt_cmpR op_gt (pe_callB call_len_seq (by rfl) T.b_len (by decide +kernel) (pa_cons (pe_ix ix_list (pv 2) pe_int (fun _ _ => rfl)) pa_nil)) pe_int (nomark _))))) (pss_cons (ps_expr (pe_call G_law_up (hr.mono (by decide)) rfl T.g__law_up T.k__law_up T.bd__law_up .nil pass0 (pa_cons (pv 2) pa_nil)))
      (pss_one (ps_ret (pe_cmpR op_isN (pe_meth0 (pv 1) T.cl_Tower T.m_Tower_shift_up G_Tower_shift_up (hr.mono (by decide)) T.bd_Tower_shift_up .nil pass0) pe_non (nomark _))))) pss_nil)
      (pss_cons (ps_set (i := 4) sc_law_deed.nd rfl (Or.inl rfl) (pe_call G_law_pick (hr.mono (by decide)) rfl T.g__law_pick T.k__law_pick T.bd__law_pick .nil pass0 (pa_cons (pv 0) (pa_cons pe_int pa_nil))))
      (pss_cons (ps_if (pt_cmpR op_lt (pv 3) pe_int (nomark _)) (pss_cons (ps_set (i := 5) sc_law_deed.nd rfl (Or.inl rfl) (pe_call G_law_word (hr.mono (by decide)) rfl T.g__law_word T.k__law_word T.bd__law_word .nil pass0 (pa_cons (pv 0) pa_nil)))
      (pss_cons (ps_expr (pe_call G_law_set (hr.mono (by decide)) rfl T.g__law_set T.k__law_set T.bd__law_set .nil pass0 (pa_cons (pv 2) (pa_cons (pv 4) (pa_cons (pv 5) pa_nil)))))
      (pss_one (ps_ret (pe_cmpR op_isN (pe_meth (pv 1) T.cl_Tower T.m_Tower_write G_Tower_write (hr.mono (by decide)) T.bd_Tower_write .nil pass0 (pa_cons (pv 4) (pa_cons (pv 5) pa_nil))) pe_non (nomark _)))))) pss_nil)
      (pss_cons (ps_if (pt_cmpR op_eq (pv 3) pe_int (nomark _)) (pss_one (ps_ret (pe_call G_law_reads (hr.mono (by decide)) rfl T.g__law_reads T.k__law_reads T.bd__law_reads .nil pass0 (pa_cons (pv 1) (pa_cons (pv 2) pa_nil))))) pss_nil)
      (pss_cons (ps_set (i := 5) sc_law_deed.nd rfl (Or.inl rfl) (pe_meth (pv 1) T.cl_Tower T.m_Tower_read G_Tower_read (hr.mono (by decide)) T.bd_Tower_read .nil pass0 (pa_cons (pv 4) pa_nil)))
      (pss_one (ps_ret (pe_and (pe_call G_law_is_integer (hr.mono (by decide)) rfl T.g__law_is_integer T.k__law_is_integer T.bd__law_is_integer .nil pass0 (pa_cons (pv 5) pa_nil)) (pe_one (pe_cmpR op_eq (pv 5) (pe_call G_law_get (hr.mono (by decide)) rfl T.g__law_get T.k__law_get T.bd__law_get .nil pass0 (pa_cons (pv 2) (pa_cons (pv 4) pa_nil))) (nomark _))))))))))))), ?_⟩
    refine ⟨_, rfl, τ, st, sa, ns, 12, rfl, S, by decide, by decide, fun c H1 c0 c1 S1 F1 => ?_⟩
    have W1 := W.st F1 n1
    have M1 := M.st F1 n2
    have F1 := F1.mono u3
    clear S W M
    refine ⟨_, rfl, _, _, rfl, rfl, _, rfl, ite3 (fun e => ?_) (fun e => ?_)⟩
    · refine ⟨_, rfl, τ, i', m, A, rfl, M1, hn, fun τ2 H2 M2 F2 => ?_⟩
      have W2 := W1.st F2 n3
      have S2 := S1.step F2 n7 n8
      have W2' := W2
      obtain ⟨dx, vw, ab, ar, Wx⟩ := W2'
      refine ⟨_, rfl, t, dx, _, rfl, Wx.ob.1, twf_no_shift_down _ _ _ _ _, τ2, i, t, A, rfl, W2, ho, hn, fun τ3 H3 W3 F3 => ⟨rfl, ?_⟩⟩
      rw [nonT]
      exact q τ3 H3 A.down (S2.step F3 n5 n6) W3 (M2.st F3 n4) ho.down (Nat.le_refl _) ((F1.tr (F2.mono u2)).tr (F3.mono u1))
    have M1' := M1
    obtain ⟨g, r, l, rr, lr, Mx⟩ := M1'
    refine ⟨fun σ H' => σ = [some (.ref st), some (.ref t), some (.ref m), some (.int c), none, none] ∧ H' = H1, ?_, ?_⟩
    · refine ⟨_, rfl, rfl, _, rfl, ite3 (fun e1 => ?_) (fun e1 => iteF ⟨rfl, rfl⟩)⟩
      refine ⟨_, rfl, _, _, _, _, rfl, rfl, SqL.of Mx.m.1, rfl, _, _, rfl, .inl (SqL.of Mx.l.1), _, _, rfl, rfl, _, rfl, ite3 (fun e2 => ?_) (fun e2 => ⟨rfl, rfl⟩)⟩
      have h0 : 0 < A.n := by
        have := of_decide_eq_true e2
        rw [rng_len] at this
        omega
      refine ⟨_, rfl, τ, i', m, A, rfl, M1, h0, fun H2 M2 F2 => ?_⟩
      have W2 := W1.st F2 n3
      have S2 := S1.step F2 n7 n8
      have W2' := W2
      obtain ⟨dx, vw, ab, ar, Wx⟩ := W2'
      refine ⟨_, rfl, t, dx, _, rfl, Wx.ob.1, twf_no_shift_up _ _ _ _ _, τ, i, t, A, rfl, W2, ho, hn, h0, fun τ3 H3 W3 F3 => ⟨rfl, ?_⟩⟩
      rw [nonT]
      exact q τ3 H3 A.up (S2.step F3 n5 n6) W3 (M2.st F3 n4) ho.up (by show A.n - 1 ≤ A.n + 1; omega) ((F1.tr (F2.mono u2)).tr (F3.mono u1))
    clear Mx
    rintro σ H' ⟨rfl, rfl⟩
    refine ⟨_, rfl, τ, st, sa, ns, 32, rfl, S1, by decide, by decide, fun v H2 v0 v1 S2 F2 => ?_⟩
    obtain ⟨k, rfl⟩ : ∃ k : Nat, v = (k : Int) := ⟨v.toNat, by omega⟩
    have hk : k < 32 := by omega
    have W2 := W1.st F2 n1
    have M2 := M1.st F2 n2
    have F2 := F1.tr (F2.mono u3)
    clear S1 W1 M1 F1
    refine ⟨_, rfl, _, _, rfl, rfl, _, rfl, ite3 (fun e1 => ?_) (fun e1 => ?_)⟩
    · refine ⟨_, rfl, τ, st, sa, ns, rfl, S2, fun τ3 x H3 x0 x1 S3 F3 => ?_⟩
      have W3 := W2.st F3 n1
      have M3 := M2.st F3 n2
      refine ⟨_, rfl, _, rfl, _, rfl, τ3, i', m, A, k, x, rfl, M3, ho, hk, fun H4 M4 F4 => ?_⟩
      have W4 := W3.st F4 n3
      have S4 := S3.step F4 n7 n8
      have W4' := W4
      obtain ⟨dx, vw, ab, ar, Wx⟩ := W4'
      refine ⟨_, rfl, t, dx, _, rfl, Wx.ob.1, twf_no_write _ _ _ _ _, _, rfl, _, rfl, τ3, i, t, A, k, x, rfl, W4, ho, hk, fun H5 W5 F5 => ⟨rfl, ?_⟩⟩
      rw [nonT]
      exact q τ3 H5 (A.wr k x) (S4.step F5 n5 n6) W5 (M4.st F5 n4) (ho.wr k x) (by rw [Ab.wr_n]; omega) (((F2.tr (F3.mono u3)).tr (F4.mono u2)).tr (F5.mono u1))
    refine ⟨_, rfl, rfl, _, rfl, ite3 (fun e2 => ?_) (fun e2 => ?_)⟩
    · refine ⟨_, rfl, _, rfl, τ, i, i', t, m, A, rfl, W2, M2, ho, fun H3 s3 => ?_⟩
      have F3 := Stp.same (τ := τ) (S := []) s3
      exact q τ H3 A (S2.step F3 (by simp) (by simp)) (W2.st F3 (by simp)) (M2.st F3 (by simp)) ho (by omega) (F2.tr (F3.mono (by simp)))
    · have W2' := W2
      obtain ⟨dx, vw, ab, ar, Wx⟩ := W2'
      refine ⟨_, rfl, t, dx, _, rfl, Wx.ob.1, twf_no_read _ _ _ _ _, _, rfl, τ, i, t, A, k, rfl, W2, ho, hk, ?_⟩
      refine ⟨_, rfl, _, rfl, _, rfl, iteT ⟨_, rfl, _, rfl, _, rfl, τ, i', m, A, k, rfl, M2, ho, hk, fun H3 s3 => ⟨rfl, ?_⟩⟩⟩
      rw [eqT rfl]
      have F3 := Stp.same (τ := τ) (S := []) s3
      exact q τ H3 A (S2.step F3 (by simp) (by simp)) (W2.st F3 (by simp)) (M2.st F3 (by simp)) ho (by omega) (F2.tr (F3.mono (by simp)))
end

/-! ### the law -/
def spLaw (K : PySem.W.Frag) : Sp := fun vs H Q _ => ∃ (a : Addr) (ns : List Int), vs = [.ref a] ∧ SqL K H a (ns.map V.int) ∧ ns.length ≤ 63 ∧ ∀ H', Q (.bl true) H'
structure LI (K : PySem.W.Frag) (C : Addr) (τ : Tg) (H : Hp) (st sa : Addr) (ns : List Int) (tw md : Addr) (t m : Nat → Addr) (A : Nat → Ab) : Prop where
  s : StG K τ H st sa ns
  tw : At τ H tw (.lst [.ref (t 0), .ref (t 1)]) (5, 0, 0)
  md : At τ H md (.lst [.ref (m 0), .ref (m 1)]) (5, 1, 0)
  T : ∀ k, k < 2 → TW C τ (2 * k) H (t k) (A k)
  M : ∀ k, k < 2 → MD τ (2 * k + 1) H (m k) (A k)
  o : ∀ k, (A k).ok
section
variable {K : PySem.W.Frag} {C : Addr} {τ τ' : Tg} {H H' : Hp} {st sa : Addr} {ns : List Int} {tw md : Addr} {t m : Nat → Addr} {A : Nat → Ab}
theorem LI.step (h : LI K C τ H st sa ns tw md t m A) (S : Stp τ τ' [4] H H') (st' : StG K τ' H' st sa ns) : LI K C τ' H' st sa ns tw md t m A :=
  ⟨st', h.tw.st S (by simp), h.md.st S (by simp), fun k hk => (h.T k hk).st S (by simp; omega), fun k hk => (h.M k hk).st S (by simp; omega), h.o⟩
theorem LI.same (h : LI K C τ H st sa ns tw md t m A) (s : Same H H') : LI K C τ H' st sa ns tw md t m A :=
  h.step (Stp.same s) (h.s.step (Stp.same (S := []) s) (by simp) (by simp))
theorem LI.put (h : LI K C τ H st sa ns tw md t m A) {k : Nat} (hk : k < 2) {B : Ab} (S : Stp τ τ' [2 * k, 2 * k + 1, 4] H H') (st' : StG K τ' H' st sa ns) (T' : TW C τ' (2 * k) H' (t k) B) (M' : MD τ' (2 * k + 1) H' (m k) B) (o' : B.ok) :
    LI K C τ' H' st sa ns tw md t m (fun j => if j = k then B else A j) := by
  refine ⟨st', h.tw.st S (by simp; omega), h.md.st S (by simp; omega), fun j hj => ?_, fun j hj => ?_, fun j => ?_⟩
  · by_cases e : j = k
    · subst e; rw [if_pos rfl]; exact T'
    · rw [if_neg e]; exact (h.T j hj).st S (by simp; omega)
  · by_cases e : j = k
    · subst e; rw [if_pos rfl]; exact M'
    · rw [if_neg e]; exact (h.M j hj).st S (by simp; omega)
  · split
    · exact o'
    · exact h.o j
end
theorem two {f : Nat → Addr} {k : Nat} (h : k < 2) : [V.ref (f 0), V.ref (f 1)][k]? = some (V.ref (f k)) := by
  obtain rfl | rfl : k = 0 ∨ k = 1 := by omega
  · rfl
  · rfl
section
variable {P : Program} {w : World} {K : PySem.W.Frag} {mg : Str → Option Value} {base : Heap} {a : Ad}
theorem ok_law (T : Txt K mg a) : FnOk P w K mg base CX0 8 a.f_law a.d_law ["script"] (spLaw K) := by
  have G_law_pick : FnOk P w K mg base CX0 1 _ _ _ _ := ok_pickG T
  have G_law_fresh : FnOk P w K mg base CX0 1 _ _ _ _ := ok_law_fresh T
  have G_law_up : FnOk P w K mg base CX0 1 _ _ _ _ := ok_law_up T
  have G_law_reads : FnOk P w K mg base CX0 3 _ _ _ _ := ok_law_reads T
  have G_law_deed : FnOk P w K mg base CX0 4 _ _ _ _ := ok_law_deed T
  have G_Tower___init__ : FnOk P w K mg base CX0 2 _ _ _ _ := ok_Tower___init__ T
  have G_Tower_shift_up : FnOk P w K mg base CX0 2 _ _ _ _ := ok_Tower_shift_up T
  refine T.F_law.ok sc_law (fun vs H Q E h => ?_) (fun cdv A outer s H vs Q E hr h => ?_)
  · obtain ⟨_, _, rfl, _⟩ := h; rfl
  · obtain ⟨sa, ns, rfl, hS, hlen, q⟩ := h
    refine ⟨_, (pss_cons (ps_set (i := 1) sc_law.nd rfl (Or.inl rfl) (pe_lst (pa_cons (pv 0) (pa_cons pe_int (pa_cons pe_int (pa_cons pe_int pa_nil))))))
      (pss_cons (ps_set (i := 2) sc_law.nd rfl (Or.inl rfl) (pe_lst (pa_cons (pe_make0 T.mk_Tower G_Tower___init__ (hr.mono (by decide)) rfl T.g_Tower T.bd_Tower___init__ .nil pass0) (pa_cons (pe_make0 T.mk_Tower G_Tower___init__ (hr.mono (by decide)) rfl T.g_Tower T.bd_Tower___init__ .nil pass0) pa_nil))))
      (pss_cons (ps_set (i := 3) sc_law.nd rfl (Or.inl rfl) (pe_lst (pa_cons (pe_call0 G_law_fresh (hr.mono (by decide)) rfl T.g__law_fresh T.k__law_fresh T.bd__law_fresh .nil pass0) (pa_cons (pe_call0 G_law_fresh (hr.mono (by decide)) rfl T.g__law_fresh T.k__law_fresh T.bd__law_fresh .nil pass0) pa_nil))))
      (pss_cons (ps_for PassesOwn.never rfl (pi_range1 rfl T.b_range (pa_cons (pe_op op_add pe_int (pe_call G_law_pick (hr.mono (by decide)) rfl T.g__law_pick T.k__law_pick T.bd__law_pick .nil pass0 (pa_cons (pv 1) (pa_cons pe_int pa_nil)))) pa_nil)) (pg_name (i := 4) sc_law.nd rfl (Or.inl rfl)) (pss_cons (ps_set (i := 5) sc_law.nd rfl (Or.inl rfl) (pe_call G_law_pick (hr.mono (by decide)) rfl T.g__law_pick T.k__law_pick T.bd__law_pick .nil pass0 (pa_cons (pv 1) (pa_cons pe_int pa_nil))))
      (pss_one (ps_if (pt_not (pt_val (pe_call G_law_deed (hr.mono (by decide)) rfl T.g__law_deed T.k__law_deed T.bd__law_deed .nil pass0 (pa_cons (pv 1) (pa_cons (pe_ix ix_list (pv 2) (pv 5) (fun _ _ => rfl)) (pa_cons (pe_ix ix_list (pv 3) (pv 5) (fun _ _ => rfl)) pa_nil)))))) (pss_one (ps_ret pe_bl)) pss_nil))))
      (pss_cons (ps_for PassesOwn.never rfl (pi_range1 rfl T.b_range (pa_cons pe_int pa_nil)) (pg_name (i := 5) sc_law.nd rfl (Or.inl rfl)) (pss_one (ps_if (pt_not (pt_val (pe_call G_law_reads (hr.mono (by decide)) rfl T.g__law_reads T.k__law_reads T.bd__law_reads .nil pass0 (pa_cons (pe_ix ix_list (pv 2) (pv 5) (fun _ _ => rfl)) (pa_cons (pe_ix ix_list (pv 3) (pv 5) (fun _ _ => rfl)) pa_nil))))) (pss_one (ps_ret pe_bl)) pss_nil)))
      (pss_cons (ps_for PassesOwn.never rfl (pi_range1 rfl T.b_range (pa_cons pe_int pa_nil)) (pg_name (i := 5) sc_law.nd rfl (Or.inl rfl)) (pss_one (ps_for PassesOwn.never rfl (pi_range1 rfl T.b_range (pa_cons pe_int pa_nil)) (pg_name (i := 4) sc_law.nd rfl (Or.inl rfl)) (pss_one (ps_if (pt_cmpR op_gt (pe_callB call_len_seq (by rfl) T.b_len (by decide +kernel) (pa_cons (pe_ix ix_list (pe_ix ix_list (pv 3) (pv 5) (fun _ _ => rfl)) pe_int (fun _ _ => rfl)) pa_nil)) pe_int (nomark _)) (pss_cons (ps_expr (pe_call G_law_up (hr.mono (by decide)) rfl T.g__law_up T.k__law_up T.bd__law_up .nil pass0 (pa_cons (pe_ix ix_list (pv 3) (pv 5) (fun _ _ => rfl)) pa_nil)))
      (pss_cons (ps_expr (pe_meth0 (pe_ix ix_list (pv 2) (pv 5) (fun _ _ => rfl)) T.cl_Tower T.m_Tower_shift_up G_Tower_shift_up (hr.mono (by decide)) T.bd_Tower_shift_up .nil pass0))
      (pss_one (ps_if (pt_not (pt_val (pe_call G_law_reads (hr.mono (by decide)) rfl T.g__law_reads T.k__law_reads T.bd__law_reads .nil pass0 (pa_cons (pe_ix ix_list (pv 2) (pv 5) (fun _ _ => rfl)) (pa_cons (pe_ix ix_list (pv 3) (pv 5) (fun _ _ => rfl)) pa_nil))))) (pss_one (ps_ret pe_bl)) pss_nil)))) pss_nil)))))
      (pss_one (ps_ret pe_bl)))))))), ?_⟩
    refine ⟨_, rfl, (by show 4 ≤ sizeLine; decide), fun st nst => ?_⟩
    have S0 := StG.first hS nst
    generalize upd H st (.lst [V.ref sa, V.int 0, V.int 0, V.int 0]) = H0 at S0 ⊢
    generalize tgN (fun _ => (6, 0, 0)) st (4, 0, 0) = τ0 at S0
    -- the towers
    refine fun x0 dx0 nx0 ndx0 nex0 => ?_
    have Fa := ((Stp.refl (τ := τ0) (S := []) (H := H0)).new ndx0 (o := .own x0) (x := (7, 0, 0))).new (p := x0) (o := .ins a.C_Tower dx0 []) (x := (0, 0, 0)) (by rw [upd_ne nex0.symm]; exact nx0)
    have aa : At (tgN (tgN τ0 dx0 (7, 0, 0)) x0 (0, 0, 0)) (upd (upd H0 dx0 (.own x0)) x0 (.ins a.C_Tower dx0 [])) x0 _ _ := At.mk
    have S1 := S0.step Fa (by simp) (by simp)
    generalize upd (upd H0 dx0 (.own x0)) x0 (.ins a.C_Tower dx0 []) = H1 at aa S1 ⊢
    generalize tgN (tgN τ0 dx0 (7, 0, 0)) x0 (0, 0, 0) = τ1 at aa S1
    clear Fa S0 nx0 ndx0
    refine ⟨τ1, 0, x0, dx0, rfl, aa, fun τ2 H2 W0 F2 => ⟨rfl, ?_⟩⟩
    have S2 := S1.step F2 (by simp) (by simp)
    clear aa S1 F2
    refine fun x1 dx1 nx1 ndx1 nex1 => ?_
    have Fa := ((Stp.refl (τ := τ2) (S := []) (H := H2)).new ndx1 (o := .own x1) (x := (7, 0, 0))).new (p := x1) (o := .ins a.C_Tower dx1 []) (x := (2, 0, 0)) (by rw [upd_ne nex1.symm]; exact nx1)
    have aa : At (tgN (tgN τ2 dx1 (7, 0, 0)) x1 (2, 0, 0)) (upd (upd H2 dx1 (.own x1)) x1 (.ins a.C_Tower dx1 [])) x1 _ _ := At.mk
    have S3 := S2.step Fa (by simp) (by simp)
    have W0 := W0.st Fa (by simp)
    generalize upd (upd H2 dx1 (.own x1)) x1 (.ins a.C_Tower dx1 []) = H3 at aa S3 W0 ⊢
    generalize tgN (tgN τ2 dx1 (7, 0, 0)) x1 (2, 0, 0) = τ3 at aa S3 W0
    clear Fa S2 nx1 ndx1
    refine ⟨τ3, 2, x1, dx1, rfl, aa, fun τ4 H4 W1 F4 => ⟨rfl, ?_⟩⟩
    have S4 := S3.step F4 (by simp) (by simp)
    have W0 := W0.st F4 (by simp)
    clear aa S3 F4
    refine ⟨(by show 2 ≤ sizeLine; decide), fun tw ntw => ?_⟩
    have F5 := (Stp.refl (τ := τ4) (S := []) (H := H4)).new ntw (o := .lst [V.ref x0, V.ref x1]) (x := (5, 0, 0))
    have atw : At (tgN τ4 tw (5, 0, 0)) (upd H4 tw (.lst [V.ref x0, V.ref x1])) tw _ _ := At.mk
    have S5 := S4.step F5 (by simp) (by simp)
    have W0 := W0.st F5 (by simp)
    have W1 := W1.st F5 (by simp)
    generalize upd H4 tw (.lst [V.ref x0, V.ref x1]) = H5 at atw S5 W0 W1 ⊢
    generalize tgN τ4 tw (5, 0, 0) = τ5 at atw S5 W0 W1
    clear F5 S4 ntw
    -- the models
    refine ⟨τ5, 1, rfl, fun τ6 H6 m0 M0 F6 => ⟨τ6, 3, rfl, fun τ7 H7 m1 M1 F7 => ⟨(by show 2 ≤ sizeLine; decide), fun md nmd => ?_⟩⟩⟩
    have F8 := (F6.tr F7).new nmd (o := .lst [V.ref m0, V.ref m1]) (x := (5, 1, 0))
    have amd : At (tgN τ7 md (5, 1, 0)) (upd H7 md (.lst [V.ref m0, V.ref m1])) md _ _ := At.mk
    have F9 := F7.new nmd (o := .lst [V.ref m0, V.ref m1]) (x := (5, 1, 0))
    have Fx := (Stp.refl (τ := τ7) (S := []) (H := H7)).new nmd (o := .lst [V.ref m0, V.ref m1]) (x := (5, 1, 0))
    have I : LI K a.C_Tower (tgN τ7 md (5, 1, 0)) (upd H7 md (.lst [V.ref m0, V.ref m1])) st sa ns tw md (fun k => if k = 0 then x0 else x1) (fun k => if k = 0 then m0 else m1) (fun _ => .zero) := by
      refine ⟨S5.step F8 (by simp) (by simp), atw.st F8 (by simp), amd, fun k hk => ?_, fun k hk => ?_, fun _ => Ab.zero_ok⟩
      · obtain rfl | rfl : k = 0 ∨ k = 1 := by omega
        · exact W0.st F8 (by simp)
        · exact W1.st F8 (by simp)
      · obtain rfl | rfl : k = 0 ∨ k = 1 := by omega
        · exact M0.st F9 (by simp)
        · exact M1.st Fx (by simp)
    generalize upd H7 md (.lst [V.ref m0, V.ref m1]) = H8 at I ⊢
    generalize tgN τ7 md (5, 1, 0) = τ8 at I
    generalize (fun k => if k = 0 then x0 else x1) = t at I
    generalize (fun k => if k = 0 then m0 else m1) = m at I
    clear F8 F9 Fx amd atw S5 W0 W1 M0 M1 F6 F7 nmd
    -- the deeds
    refine ⟨_, rfl, τ8, st, sa, ns, 53, rfl, I.s, by decide, by decide, fun v H9 v0 v1 S9 F9 => ⟨_, _, rfl, rfl, _, rfl, by omega, by omega, ?_⟩⟩
    have I9 := I.step F9 S9
    refine for_range (lo := 0) (n := (8 + v).toNat) (fun i σ H' => ∃ τ A, LI K a.C_Tower τ H' st sa ns tw md t m A ∧ (∀ k, (A k).n ≤ i) ∧ ∃ x y, σ = [some (.ref sa), some (.ref st), some (.ref tw), some (.ref md), x, y]) ⟨τ8, _, I9, fun _ => Nat.le_refl _, none, none, rfl⟩ ?_ ?_
    · rintro i σ H10 hi ⟨τ, A, J, hA, x, y, rfl⟩
      refine ⟨_, rfl, τ, st, sa, ns, 2, rfl, J.s, by decide, by decide, fun c H11 c0 c1 S11 F11 => ?_⟩
      obtain ⟨k, rfl⟩ : ∃ k : Nat, c = (k : Int) := ⟨c.toNat, by omega⟩
      have hk : k < 2 := by omega
      have J2 := J.step F11 S11
      refine ⟨_, rfl, _, rfl, _, rfl, _, _, _, _, rfl, rfl, SqL.of J2.tw.1, atI_nat (two hk), _, rfl, _, rfl, _, _, _, _, rfl, rfl, SqL.of J2.md.1, atI_nat (two hk), ?_⟩
      refine ⟨τ, st, sa, ns, 2 * k, 2 * k + 1, t k, m k, A k, rfl, J2.s, J2.T k hk, J2.M k hk, J2.o k, by have := hA k; omega, by omega, by omega, by omega, fun τ' H' B S' T' M' o' hB F' => ⟨_, rfl, iteF ?_⟩⟩
      refine ⟨τ', _, J2.put hk F' S' T' M' o', fun j => ?_, _, _, rfl⟩
      split
      · have := hA k; omega
      · have := hA j; omega
    · rintro σ H10 ⟨τ, A, J, hA, x, y, rfl⟩
      refine ⟨2, rfl, by decide, by decide, for_range (lo := 0) (n := 2) (fun _ σ H' => LI K a.C_Tower τ H' st sa ns tw md t m A ∧ ∃ y, σ = [some (.ref sa), some (.ref st), some (.ref tw), some (.ref md), x, y]) ⟨J, _, rfl⟩ ?_ ?_⟩
      · rintro k σ H11 hk ⟨J2, y, rfl⟩
        have e0 : (0 : Int) + (k : Int) = (k : Int) := Int.zero_add _
        rw [e0]
        refine ⟨_, rfl, _, rfl, _, _, _, _, rfl, rfl, SqL.of J2.tw.1, atI_nat (two hk), _, rfl, _, rfl, _, _, _, _, rfl, rfl, SqL.of J2.md.1, atI_nat (two hk), ?_⟩
        exact ⟨τ, _, _, _, _, A k, rfl, J2.T k hk, J2.M k hk, J2.o k, fun H12 s12 => ⟨_, rfl, iteF ⟨J2.same s12, _, rfl⟩⟩⟩
      clear J
      rintro σ H11 ⟨J, y, rfl⟩
      refine ⟨2, rfl, by decide, by decide, for_range (lo := 0) (n := 2) (fun _ σ H' => ∃ τ A, LI K a.C_Tower τ H' st sa ns tw md t m A ∧ (∀ k, (A k).n ≤ 60) ∧ ∃ x y, σ = [some (.ref sa), some (.ref st), some (.ref tw), some (.ref md), x, y]) ⟨τ, A, J, fun k => by have := hA k; omega, _, _, rfl⟩ ?_ ?_⟩
      · clear J hA
        rintro k σ H12 hk ⟨τ, A, J, hA, x, y, rfl⟩
        have e0 : (0 : Int) + (k : Int) = (k : Int) := Int.zero_add _
        rw [e0]
        refine ⟨60, rfl, by decide, by decide, for_range (lo := 0) (n := 60) (fun _ σ H' => ∃ τ A, LI K a.C_Tower τ H' st sa ns tw md t m A ∧ (∀ k, (A k).n ≤ 60) ∧ ∃ x, σ = [some (.ref sa), some (.ref st), some (.ref tw), some (.ref md), x, some (.int k)]) ⟨τ, A, J, hA, _, rfl⟩ ?_ ?_⟩
        · clear J hA
          rintro j σ H13 hj ⟨τ, A, J, hA, x, rfl⟩
          have Mk := J.M k hk
          have Mk' := Mk
          obtain ⟨g, r, l, rr, lr, Mx⟩ := Mk'
          refine ⟨_, rfl, _, rfl, _, _, _, _, rfl, rfl, SqL.of J.md.1, atI_nat (two hk), _, _, _, _, rfl, rfl, SqL.of Mx.m.1, rfl, _, _, rfl, .inl (SqL.of Mx.l.1), _, _, rfl, rfl, _, rfl, ite3 (fun e => ?_) (fun e => ?_)⟩
          · have h0 : 0 < (A k).n := by
              have := of_decide_eq_true e
              rw [rng_len] at this
              omega
            refine ⟨_, rfl, _, rfl, _, _, _, _, rfl, rfl, SqL.of J.md.1, atI_nat (two hk), τ, _, _, A k, rfl, Mk, h0, fun H14 M' F' => ?_⟩
            have T' := (J.T k hk).st F' (by simp)
            have tw' := J.tw.st F' (by simp; omega)
            have md' := J.md.st F' (by simp; omega)
            have S' := J.s.step F' (by simp; omega) (by simp; omega)
            have T2 := T'
            obtain ⟨dx, vw, ab, ar, Wx⟩ := T2
            refine ⟨_, rfl, _, rfl, _, _, _, _, rfl, rfl, SqL.of tw'.1, atI_nat (two hk), t k, dx, _, rfl, Wx.ob.1, twf_no_shift_up _ _ _ _ _, τ, _, t k, A k, rfl, T', J.o k, by have := hA k; omega, h0, fun τ2 H15 W2 F2 => ?_⟩
            have M2 := M'.st F2 (by simp)
            have S2 := S'.step F2 (by simp; omega) (by simp; omega)
            have J2 := J.put hk ((F'.mono (S' := [2 * k, 2 * k + 1, 4]) (by simp)).tr (F2.mono (by simp))) S2 W2 M2 (J.o k).up
            refine ⟨_, rfl, _, rfl, _, _, _, _, rfl, rfl, SqL.of J2.tw.1, atI_nat (two hk), _, rfl, _, rfl, _, _, _, _, rfl, rfl, SqL.of J2.md.1, atI_nat (two hk), ?_⟩
            refine ⟨τ2, _, _, _, _, _, rfl, J2.T k hk, J2.M k hk, J2.o k, fun H16 s16 => ⟨_, rfl, iteF ⟨τ2, _, J2.same s16, fun j => ?_, _, rfl⟩⟩⟩
            split
            · show (A k).n - 1 ≤ 60
              have := hA k; omega
            · exact hA j
          · exact ⟨τ, A, J, hA, _, rfl⟩
        · rintro σ H13 ⟨τ, A, J, hA, x, rfl⟩
          exact ⟨τ, A, J, hA, _, _, rfl⟩
      · rintro σ H12 ⟨τ, A, J, hA, x, y, rfl⟩
        exact q _
end

theorem all_mk {l : PySem.W.OpenLaw} {w : World} {K : PySem.W.Frag} {h : Heap} {mg : Str → Option Value} {fa : Addr} (X : K.In h) (G : h.Ns mainGlobals mg) (hfa : mg "law" = some (.ref fa))
    {C_Tower : Addr} (aC_Tower : PySem.W.nsIn K mainGlobals "Tower" = some (some (.ref C_Tower)))
    (pg_Tower : PySem.W.plainGet K C_Tower Str.empty = true) (hd_Tower : PySem.W.hasDictIn K C_Tower = true) (po_Tower : PySem.W.plainOver K C_Tower = true) (sa_Tower : PySem.W.findIn K (.ref C_Tower) "__setattr__" = some (some (.builtin "object.__setattr__"))) (mk_Tower : PySem.W.makesIn K C_Tower = true) (kC_Tower : PySem.W.keepIn K (.ref C_Tower) = true)
    (n_Tower_depth : PySem.W.findIn K (.ref C_Tower) "depth" = some none)
    (n_Tower_spills : PySem.W.findIn K (.ref C_Tower) "spills" = some none)
    (n_Tower_fills : PySem.W.findIn K (.ref C_Tower) "fills" = some none)
    (n_Tower__view : PySem.W.findIn K (.ref C_Tower) "_view" = some none)
    (n_Tower__above : PySem.W.findIn K (.ref C_Tower) "_above" = some none)
    {f_empty_view : Addr} {oc_empty_view : Value} {od_empty_view an_empty_view : Option Addr} {sl_empty_view : Array (Option Value)} {kV_empty_view dc_empty_view pm_empty_view cd_empty_view ct_empty_view : Value}
    (a_empty_view : PySem.W.nsIn K mainGlobals "empty_view" = some (some (.ref f_empty_view)))
    (l_empty_view : K.lookup f_empty_view = some ⟨oc_empty_view, od_empty_view, .func (PySem.W.fnOf "empty_view" "empty_view" (defArgs s_empty_view) (defBody s_empty_view) (defScope s_empty_view) .none kV_empty_view dc_empty_view pm_empty_view an_empty_view cd_empty_view ct_empty_view), sl_empty_view⟩)
    (c_empty_view : PySem.W.codeIn K cd_empty_view "empty_view" = true)
    (k_empty_view : PySem.W.keepIn K (.ref f_empty_view) = true)
    {f_locals_and_ins : Addr} {oc_locals_and_ins : Value} {od_locals_and_ins an_locals_and_ins : Option Addr} {sl_locals_and_ins : Array (Option Value)} {kV_locals_and_ins dc_locals_and_ins pm_locals_and_ins cd_locals_and_ins ct_locals_and_ins : Value}
    (a_locals_and_ins : PySem.W.nsIn K mainGlobals "locals_and_ins" = some (some (.ref f_locals_and_ins)))
    (l_locals_and_ins : K.lookup f_locals_and_ins = some ⟨oc_locals_and_ins, od_locals_and_ins, .func (PySem.W.fnOf "locals_and_ins" "locals_and_ins" (defArgs s_locals_and_ins) (defBody s_locals_and_ins) (defScope s_locals_and_ins) .none kV_locals_and_ins dc_locals_and_ins pm_locals_and_ins an_locals_and_ins cd_locals_and_ins ct_locals_and_ins), sl_locals_and_ins⟩)
    (c_locals_and_ins : PySem.W.codeIn K cd_locals_and_ins "locals_and_ins" = true)
    (k_locals_and_ins : PySem.W.keepIn K (.ref f_locals_and_ins) = true)
    {f_view_below : Addr} {oc_view_below : Value} {od_view_below an_view_below : Option Addr} {sl_view_below : Array (Option Value)} {kV_view_below dc_view_below pm_view_below cd_view_below ct_view_below : Value}
    (a_view_below : PySem.W.nsIn K mainGlobals "view_below" = some (some (.ref f_view_below)))
    (l_view_below : K.lookup f_view_below = some ⟨oc_view_below, od_view_below, .func (PySem.W.fnOf "view_below" "view_below" (defArgs s_view_below) (defBody s_view_below) (defScope s_view_below) .none kV_view_below dc_view_below pm_view_below an_view_below cd_view_below ct_view_below), sl_view_below⟩)
    (c_view_below : PySem.W.codeIn K cd_view_below "view_below" = true)
    (k_view_below : PySem.W.keepIn K (.ref f_view_below) = true)
    {f_view_above : Addr} {oc_view_above : Value} {od_view_above an_view_above : Option Addr} {sl_view_above : Array (Option Value)} {kV_view_above dc_view_above pm_view_above cd_view_above ct_view_above : Value}
    (a_view_above : PySem.W.nsIn K mainGlobals "view_above" = some (some (.ref f_view_above)))
    (l_view_above : K.lookup f_view_above = some ⟨oc_view_above, od_view_above, .func (PySem.W.fnOf "view_above" "view_above" (defArgs s_view_above) (defBody s_view_above) (defScope s_view_above) .none kV_view_above dc_view_above pm_view_above an_view_above cd_view_above ct_view_above), sl_view_above⟩)
    (c_view_above : PySem.W.codeIn K cd_view_above "view_above" = true)
    (k_view_above : PySem.W.keepIn K (.ref f_view_above) = true)
    {f_Tower___init__ : Addr} {oc_Tower___init__ : Value} {od_Tower___init__ an_Tower___init__ : Option Addr} {sl_Tower___init__ : Array (Option Value)} {kV_Tower___init__ dc_Tower___init__ pm_Tower___init__ cd_Tower___init__ ct_Tower___init__ : Value}
    (a_Tower___init__ : PySem.W.findIn K (.ref C_Tower) "__init__" = some (some (.ref f_Tower___init__)))
    (i_Tower___init__ : PySem.W.isFn K (.ref f_Tower___init__) = true)
    (l_Tower___init__ : K.lookup f_Tower___init__ = some ⟨oc_Tower___init__, od_Tower___init__, .func (PySem.W.fnOf "__init__" "Tower.__init__" (defArgs s_Tower___init__) (defBody s_Tower___init__) (defScope s_Tower___init__) .none kV_Tower___init__ dc_Tower___init__ pm_Tower___init__ an_Tower___init__ cd_Tower___init__ ct_Tower___init__), sl_Tower___init__⟩)
    (c_Tower___init__ : PySem.W.codeIn K cd_Tower___init__ "Tower.__init__" = true)
    (k_Tower___init__ : PySem.W.keepIn K (.ref f_Tower___init__) = true)
    {f_Tower_read : Addr} {oc_Tower_read : Value} {od_Tower_read an_Tower_read : Option Addr} {sl_Tower_read : Array (Option Value)} {kV_Tower_read dc_Tower_read pm_Tower_read cd_Tower_read ct_Tower_read : Value}
    (a_Tower_read : PySem.W.findIn K (.ref C_Tower) "read" = some (some (.ref f_Tower_read)))
    (i_Tower_read : PySem.W.isFn K (.ref f_Tower_read) = true)
    (l_Tower_read : K.lookup f_Tower_read = some ⟨oc_Tower_read, od_Tower_read, .func (PySem.W.fnOf "read" "Tower.read" (defArgs s_Tower_read) (defBody s_Tower_read) (defScope s_Tower_read) .none kV_Tower_read dc_Tower_read pm_Tower_read an_Tower_read cd_Tower_read ct_Tower_read), sl_Tower_read⟩)
    (c_Tower_read : PySem.W.codeIn K cd_Tower_read "Tower.read" = true)
    (k_Tower_read : PySem.W.keepIn K (.ref f_Tower_read) = true)
    {f_Tower_write : Addr} {oc_Tower_write : Value} {od_Tower_write an_Tower_write : Option Addr} {sl_Tower_write : Array (Option Value)} {kV_Tower_write dc_Tower_write pm_Tower_write cd_Tower_write ct_Tower_write : Value}
    (a_Tower_write : PySem.W.findIn K (.ref C_Tower) "write" = some (some (.ref f_Tower_write)))
    (i_Tower_write : PySem.W.isFn K (.ref f_Tower_write) = true)
    (l_Tower_write : K.lookup f_Tower_write = some ⟨oc_Tower_write, od_Tower_write, .func (PySem.W.fnOf "write" "Tower.write" (defArgs s_Tower_write) (defBody s_Tower_write) (defScope s_Tower_write) .none kV_Tower_write dc_Tower_write pm_Tower_write an_Tower_write cd_Tower_write ct_Tower_write), sl_Tower_write⟩)
    (c_Tower_write : PySem.W.codeIn K cd_Tower_write "Tower.write" = true)
    (k_Tower_write : PySem.W.keepIn K (.ref f_Tower_write) = true)
    {f_Tower_shift_down : Addr} {oc_Tower_shift_down : Value} {od_Tower_shift_down an_Tower_shift_down : Option Addr} {sl_Tower_shift_down : Array (Option Value)} {kV_Tower_shift_down dc_Tower_shift_down pm_Tower_shift_down cd_Tower_shift_down ct_Tower_shift_down : Value}
    (a_Tower_shift_down : PySem.W.findIn K (.ref C_Tower) "shift_down" = some (some (.ref f_Tower_shift_down)))
    (i_Tower_shift_down : PySem.W.isFn K (.ref f_Tower_shift_down) = true)
    (l_Tower_shift_down : K.lookup f_Tower_shift_down = some ⟨oc_Tower_shift_down, od_Tower_shift_down, .func (PySem.W.fnOf "shift_down" "Tower.shift_down" (defArgs s_Tower_shift_down) (defBody s_Tower_shift_down) (defScope s_Tower_shift_down) .none kV_Tower_shift_down dc_Tower_shift_down pm_Tower_shift_down an_Tower_shift_down cd_Tower_shift_down ct_Tower_shift_down), sl_Tower_shift_down⟩)
    (c_Tower_shift_down : PySem.W.codeIn K cd_Tower_shift_down "Tower.shift_down" = true)
    (k_Tower_shift_down : PySem.W.keepIn K (.ref f_Tower_shift_down) = true)
    {f_Tower_shift_up : Addr} {oc_Tower_shift_up : Value} {od_Tower_shift_up an_Tower_shift_up : Option Addr} {sl_Tower_shift_up : Array (Option Value)} {kV_Tower_shift_up dc_Tower_shift_up pm_Tower_shift_up cd_Tower_shift_up ct_Tower_shift_up : Value}
    (a_Tower_shift_up : PySem.W.findIn K (.ref C_Tower) "shift_up" = some (some (.ref f_Tower_shift_up)))
    (i_Tower_shift_up : PySem.W.isFn K (.ref f_Tower_shift_up) = true)
    (l_Tower_shift_up : K.lookup f_Tower_shift_up = some ⟨oc_Tower_shift_up, od_Tower_shift_up, .func (PySem.W.fnOf "shift_up" "Tower.shift_up" (defArgs s_Tower_shift_up) (defBody s_Tower_shift_up) (defScope s_Tower_shift_up) .none kV_Tower_shift_up dc_Tower_shift_up pm_Tower_shift_up an_Tower_shift_up cd_Tower_shift_up ct_Tower_shift_up), sl_Tower_shift_up⟩)
    (c_Tower_shift_up : PySem.W.codeIn K cd_Tower_shift_up "Tower.shift_up" = true)
    (k_Tower_shift_up : PySem.W.keepIn K (.ref f_Tower_shift_up) = true)
    {f_Tower_blocked_down : Addr} {oc_Tower_blocked_down : Value} {od_Tower_blocked_down an_Tower_blocked_down : Option Addr} {sl_Tower_blocked_down : Array (Option Value)} {kV_Tower_blocked_down dc_Tower_blocked_down pm_Tower_blocked_down cd_Tower_blocked_down ct_Tower_blocked_down : Value}
    (a_Tower_blocked_down : PySem.W.findIn K (.ref C_Tower) "blocked_down" = some (some (.ref f_Tower_blocked_down)))
    (i_Tower_blocked_down : PySem.W.isFn K (.ref f_Tower_blocked_down) = true)
    (l_Tower_blocked_down : K.lookup f_Tower_blocked_down = some ⟨oc_Tower_blocked_down, od_Tower_blocked_down, .func (PySem.W.fnOf "blocked_down" "Tower.blocked_down" (defArgs s_Tower_blocked_down) (defBody s_Tower_blocked_down) (defScope s_Tower_blocked_down) .none kV_Tower_blocked_down dc_Tower_blocked_down pm_Tower_blocked_down an_Tower_blocked_down cd_Tower_blocked_down ct_Tower_blocked_down), sl_Tower_blocked_down⟩)
    (c_Tower_blocked_down : PySem.W.codeIn K cd_Tower_blocked_down "Tower.blocked_down" = true)
    (k_Tower_blocked_down : PySem.W.keepIn K (.ref f_Tower_blocked_down) = true)
    {f_Tower_blocked_up : Addr} {oc_Tower_blocked_up : Value} {od_Tower_blocked_up an_Tower_blocked_up : Option Addr} {sl_Tower_blocked_up : Array (Option Value)} {kV_Tower_blocked_up dc_Tower_blocked_up pm_Tower_blocked_up cd_Tower_blocked_up ct_Tower_blocked_up : Value}
    (a_Tower_blocked_up : PySem.W.findIn K (.ref C_Tower) "blocked_up" = some (some (.ref f_Tower_blocked_up)))
    (i_Tower_blocked_up : PySem.W.isFn K (.ref f_Tower_blocked_up) = true)
    (l_Tower_blocked_up : K.lookup f_Tower_blocked_up = some ⟨oc_Tower_blocked_up, od_Tower_blocked_up, .func (PySem.W.fnOf "blocked_up" "Tower.blocked_up" (defArgs s_Tower_blocked_up) (defBody s_Tower_blocked_up) (defScope s_Tower_blocked_up) .none kV_Tower_blocked_up dc_Tower_blocked_up pm_Tower_blocked_up an_Tower_blocked_up cd_Tower_blocked_up ct_Tower_blocked_up), sl_Tower_blocked_up⟩)
    (c_Tower_blocked_up : PySem.W.codeIn K cd_Tower_blocked_up "Tower.blocked_up" = true)
    (k_Tower_blocked_up : PySem.W.keepIn K (.ref f_Tower_blocked_up) = true)
    {f_law_pick : Addr} {oc_law_pick : Value} {od_law_pick an_law_pick : Option Addr} {sl_law_pick : Array (Option Value)} {kV_law_pick dc_law_pick pm_law_pick cd_law_pick ct_law_pick : Value}
    (a_law_pick : PySem.W.nsIn K mainGlobals "_law_pick" = some (some (.ref f_law_pick)))
    (l_law_pick : K.lookup f_law_pick = some ⟨oc_law_pick, od_law_pick, .func (PySem.W.fnOf "_law_pick" "_law_pick" (defArgs s_law_pick) (defBody s_law_pick) (defScope s_law_pick) .none kV_law_pick dc_law_pick pm_law_pick an_law_pick cd_law_pick ct_law_pick), sl_law_pick⟩)
    (c_law_pick : PySem.W.codeIn K cd_law_pick "_law_pick" = true)
    (k_law_pick : PySem.W.keepIn K (.ref f_law_pick) = true)
    {f_law_is_integer : Addr} {oc_law_is_integer : Value} {od_law_is_integer an_law_is_integer : Option Addr} {sl_law_is_integer : Array (Option Value)} {kV_law_is_integer dc_law_is_integer pm_law_is_integer cd_law_is_integer ct_law_is_integer : Value}
    (a_law_is_integer : PySem.W.nsIn K mainGlobals "_law_is_integer" = some (some (.ref f_law_is_integer)))
    (l_law_is_integer : K.lookup f_law_is_integer = some ⟨oc_law_is_integer, od_law_is_integer, .func (PySem.W.fnOf "_law_is_integer" "_law_is_integer" (defArgs s_law_is_integer) (defBody s_law_is_integer) (defScope s_law_is_integer) .none kV_law_is_integer dc_law_is_integer pm_law_is_integer an_law_is_integer cd_law_is_integer ct_law_is_integer), sl_law_is_integer⟩)
    (c_law_is_integer : PySem.W.codeIn K cd_law_is_integer "_law_is_integer" = true)
    (k_law_is_integer : PySem.W.keepIn K (.ref f_law_is_integer) = true)
    {f_law_word : Addr} {oc_law_word : Value} {od_law_word an_law_word : Option Addr} {sl_law_word : Array (Option Value)} {kV_law_word dc_law_word pm_law_word cd_law_word ct_law_word : Value}
    (a_law_word : PySem.W.nsIn K mainGlobals "_law_word" = some (some (.ref f_law_word)))
    (l_law_word : K.lookup f_law_word = some ⟨oc_law_word, od_law_word, .func (PySem.W.fnOf "_law_word" "_law_word" (defArgs s_law_word) (defBody s_law_word) (defScope s_law_word) .none kV_law_word dc_law_word pm_law_word an_law_word cd_law_word ct_law_word), sl_law_word⟩)
    (c_law_word : PySem.W.codeIn K cd_law_word "_law_word" = true)
    (k_law_word : PySem.W.keepIn K (.ref f_law_word) = true)
    {f_law_fresh : Addr} {oc_law_fresh : Value} {od_law_fresh an_law_fresh : Option Addr} {sl_law_fresh : Array (Option Value)} {kV_law_fresh dc_law_fresh pm_law_fresh cd_law_fresh ct_law_fresh : Value}
    (a_law_fresh : PySem.W.nsIn K mainGlobals "_law_fresh" = some (some (.ref f_law_fresh)))
    (l_law_fresh : K.lookup f_law_fresh = some ⟨oc_law_fresh, od_law_fresh, .func (PySem.W.fnOf "_law_fresh" "_law_fresh" (defArgs s_law_fresh) (defBody s_law_fresh) (defScope s_law_fresh) .none kV_law_fresh dc_law_fresh pm_law_fresh an_law_fresh cd_law_fresh ct_law_fresh), sl_law_fresh⟩)
    (c_law_fresh : PySem.W.codeIn K cd_law_fresh "_law_fresh" = true)
    (k_law_fresh : PySem.W.keepIn K (.ref f_law_fresh) = true)
    {f_law_find : Addr} {oc_law_find : Value} {od_law_find an_law_find : Option Addr} {sl_law_find : Array (Option Value)} {kV_law_find dc_law_find pm_law_find cd_law_find ct_law_find : Value}
    (a_law_find : PySem.W.nsIn K mainGlobals "_law_find" = some (some (.ref f_law_find)))
    (l_law_find : K.lookup f_law_find = some ⟨oc_law_find, od_law_find, .func (PySem.W.fnOf "_law_find" "_law_find" (defArgs s_law_find) (defBody s_law_find) (defScope s_law_find) .none kV_law_find dc_law_find pm_law_find an_law_find cd_law_find ct_law_find), sl_law_find⟩)
    (c_law_find : PySem.W.codeIn K cd_law_find "_law_find" = true)
    (k_law_find : PySem.W.keepIn K (.ref f_law_find) = true)
    {f_law_get : Addr} {oc_law_get : Value} {od_law_get an_law_get : Option Addr} {sl_law_get : Array (Option Value)} {kV_law_get dc_law_get pm_law_get cd_law_get ct_law_get : Value}
    (a_law_get : PySem.W.nsIn K mainGlobals "_law_get" = some (some (.ref f_law_get)))
    (l_law_get : K.lookup f_law_get = some ⟨oc_law_get, od_law_get, .func (PySem.W.fnOf "_law_get" "_law_get" (defArgs s_law_get) (defBody s_law_get) (defScope s_law_get) .none kV_law_get dc_law_get pm_law_get an_law_get cd_law_get ct_law_get), sl_law_get⟩)
    (c_law_get : PySem.W.codeIn K cd_law_get "_law_get" = true)
    (k_law_get : PySem.W.keepIn K (.ref f_law_get) = true)
    {f_law_set : Addr} {oc_law_set : Value} {od_law_set an_law_set : Option Addr} {sl_law_set : Array (Option Value)} {kV_law_set dc_law_set pm_law_set cd_law_set ct_law_set : Value}
    (a_law_set : PySem.W.nsIn K mainGlobals "_law_set" = some (some (.ref f_law_set)))
    (l_law_set : K.lookup f_law_set = some ⟨oc_law_set, od_law_set, .func (PySem.W.fnOf "_law_set" "_law_set" (defArgs s_law_set) (defBody s_law_set) (defScope s_law_set) .none kV_law_set dc_law_set pm_law_set an_law_set cd_law_set ct_law_set), sl_law_set⟩)
    (c_law_set : PySem.W.codeIn K cd_law_set "_law_set" = true)
    (k_law_set : PySem.W.keepIn K (.ref f_law_set) = true)
    {f_law_down : Addr} {oc_law_down : Value} {od_law_down an_law_down : Option Addr} {sl_law_down : Array (Option Value)} {kV_law_down dc_law_down pm_law_down cd_law_down ct_law_down : Value}
    (a_law_down : PySem.W.nsIn K mainGlobals "_law_down" = some (some (.ref f_law_down)))
    (l_law_down : K.lookup f_law_down = some ⟨oc_law_down, od_law_down, .func (PySem.W.fnOf "_law_down" "_law_down" (defArgs s_law_down) (defBody s_law_down) (defScope s_law_down) .none kV_law_down dc_law_down pm_law_down an_law_down cd_law_down ct_law_down), sl_law_down⟩)
    (c_law_down : PySem.W.codeIn K cd_law_down "_law_down" = true)
    (k_law_down : PySem.W.keepIn K (.ref f_law_down) = true)
    {f_law_up : Addr} {oc_law_up : Value} {od_law_up an_law_up : Option Addr} {sl_law_up : Array (Option Value)} {kV_law_up dc_law_up pm_law_up cd_law_up ct_law_up : Value}
    (a_law_up : PySem.W.nsIn K mainGlobals "_law_up" = some (some (.ref f_law_up)))
    (l_law_up : K.lookup f_law_up = some ⟨oc_law_up, od_law_up, .func (PySem.W.fnOf "_law_up" "_law_up" (defArgs s_law_up) (defBody s_law_up) (defScope s_law_up) .none kV_law_up dc_law_up pm_law_up an_law_up cd_law_up ct_law_up), sl_law_up⟩)
    (c_law_up : PySem.W.codeIn K cd_law_up "_law_up" = true)
    (k_law_up : PySem.W.keepIn K (.ref f_law_up) = true)
    {f_law_reads : Addr} {oc_law_reads : Value} {od_law_reads an_law_reads : Option Addr} {sl_law_reads : Array (Option Value)} {kV_law_reads dc_law_reads pm_law_reads cd_law_reads ct_law_reads : Value}
    (a_law_reads : PySem.W.nsIn K mainGlobals "_law_reads" = some (some (.ref f_law_reads)))
    (l_law_reads : K.lookup f_law_reads = some ⟨oc_law_reads, od_law_reads, .func (PySem.W.fnOf "_law_reads" "_law_reads" (defArgs s_law_reads) (defBody s_law_reads) (defScope s_law_reads) .none kV_law_reads dc_law_reads pm_law_reads an_law_reads cd_law_reads ct_law_reads), sl_law_reads⟩)
    (c_law_reads : PySem.W.codeIn K cd_law_reads "_law_reads" = true)
    (k_law_reads : PySem.W.keepIn K (.ref f_law_reads) = true)
    {f_law_deed : Addr} {oc_law_deed : Value} {od_law_deed an_law_deed : Option Addr} {sl_law_deed : Array (Option Value)} {kV_law_deed dc_law_deed pm_law_deed cd_law_deed ct_law_deed : Value}
    (a_law_deed : PySem.W.nsIn K mainGlobals "_law_deed" = some (some (.ref f_law_deed)))
    (l_law_deed : K.lookup f_law_deed = some ⟨oc_law_deed, od_law_deed, .func (PySem.W.fnOf "_law_deed" "_law_deed" (defArgs s_law_deed) (defBody s_law_deed) (defScope s_law_deed) .none kV_law_deed dc_law_deed pm_law_deed an_law_deed cd_law_deed ct_law_deed), sl_law_deed⟩)
    (c_law_deed : PySem.W.codeIn K cd_law_deed "_law_deed" = true)
    (k_law_deed : PySem.W.keepIn K (.ref f_law_deed) = true)
    {f_law : Addr} {oc_law : Value} {od_law an_law : Option Addr} {sl_law : Array (Option Value)} {kV_law dc_law pm_law cd_law ct_law : Value}
    (a_law : PySem.W.nsIn K mainGlobals "law" = some (some (.ref f_law)))
    (l_law : K.lookup f_law = some ⟨oc_law, od_law, .func (PySem.W.fnOf "law" "law" (defArgs s_law) (defBody s_law) (defScope s_law) .none kV_law dc_law pm_law an_law cd_law ct_law), sl_law⟩)
    (c_law : PySem.W.codeIn K cd_law "law" = true)
    (k_law : PySem.W.keepIn K (.ref f_law) = true)
    {t_FIRST_IN : Tok} (a_FIRST_IN : PySem.W.nsIn K mainGlobals "FIRST_IN" = some (some (.int (24) t_FIRST_IN)))
    {t_FIRST_LOCAL : Tok} (a_FIRST_LOCAL : PySem.W.nsIn K mainGlobals "FIRST_LOCAL" = some (some (.int (16) t_FIRST_LOCAL)))
    {t_FIRST_OUT : Tok} (a_FIRST_OUT : PySem.W.nsIn K mainGlobals "FIRST_OUT" = some (some (.int (8) t_FIRST_OUT)))
    (z_bool : PySem.W.nsIn K mainGlobals "bool" = some none)
    (z_int : PySem.W.nsIn K mainGlobals "int" = some none)
    (z_isinstance : PySem.W.nsIn K mainGlobals "isinstance" = some none)
    (z_len : PySem.W.nsIn K mainGlobals "len" = some none)
    (z_range : PySem.W.nsIn K mainGlobals "range" = some none) :
    ∃ fd : FuncData, (∀ (s : Shared) (v : Value), BindsTo s fd ⟨[v], []⟩ [("script", v)]) ∧ ∀ base : Heap, K.In base → base.Ns mainGlobals mg → FnOk l.prog w K mg base CX0 8 fa fd ["script"] (spLaw K) := by
  have e := hfa.symm.trans (PySem.W.mg_of X G a_law)
  cases e
  let a : Ad := { f_empty_view := f_empty_view, d_empty_view := PySem.W.fnOf "empty_view" "empty_view" (defArgs s_empty_view) (defBody s_empty_view) (defScope s_empty_view) .none kV_empty_view dc_empty_view pm_empty_view an_empty_view cd_empty_view ct_empty_view, f_locals_and_ins := f_locals_and_ins, d_locals_and_ins := PySem.W.fnOf "locals_and_ins" "locals_and_ins" (defArgs s_locals_and_ins) (defBody s_locals_and_ins) (defScope s_locals_and_ins) .none kV_locals_and_ins dc_locals_and_ins pm_locals_and_ins an_locals_and_ins cd_locals_and_ins ct_locals_and_ins, f_view_below := f_view_below, d_view_below := PySem.W.fnOf "view_below" "view_below" (defArgs s_view_below) (defBody s_view_below) (defScope s_view_below) .none kV_view_below dc_view_below pm_view_below an_view_below cd_view_below ct_view_below, f_view_above := f_view_above, d_view_above := PySem.W.fnOf "view_above" "view_above" (defArgs s_view_above) (defBody s_view_above) (defScope s_view_above) .none kV_view_above dc_view_above pm_view_above an_view_above cd_view_above ct_view_above, f_Tower___init__ := f_Tower___init__, d_Tower___init__ := PySem.W.fnOf "__init__" "Tower.__init__" (defArgs s_Tower___init__) (defBody s_Tower___init__) (defScope s_Tower___init__) .none kV_Tower___init__ dc_Tower___init__ pm_Tower___init__ an_Tower___init__ cd_Tower___init__ ct_Tower___init__, f_Tower_read := f_Tower_read, d_Tower_read := PySem.W.fnOf "read" "Tower.read" (defArgs s_Tower_read) (defBody s_Tower_read) (defScope s_Tower_read) .none kV_Tower_read dc_Tower_read pm_Tower_read an_Tower_read cd_Tower_read ct_Tower_read, f_Tower_write := f_Tower_write, d_Tower_write := PySem.W.fnOf "write" "Tower.write" (defArgs s_Tower_write) (defBody s_Tower_write) (defScope s_Tower_write) .none kV_Tower_write dc_Tower_write pm_Tower_write an_Tower_write cd_Tower_write ct_Tower_write, f_Tower_shift_down := f_Tower_shift_down, d_Tower_shift_down := PySem.W.fnOf "shift_down" "Tower.shift_down" (defArgs s_Tower_shift_down) (defBody s_Tower_shift_down) (defScope s_Tower_shift_down) .none kV_Tower_shift_down dc_Tower_shift_down pm_Tower_shift_down an_Tower_shift_down cd_Tower_shift_down ct_Tower_shift_down, f_Tower_shift_up := f_Tower_shift_up, d_Tower_shift_up := PySem.W.fnOf "shift_up" "Tower.shift_up" (defArgs s_Tower_shift_up) (defBody s_Tower_shift_up) (defScope s_Tower_shift_up) .none kV_Tower_shift_up dc_Tower_shift_up pm_Tower_shift_up an_Tower_shift_up cd_Tower_shift_up ct_Tower_shift_up, f_Tower_blocked_down := f_Tower_blocked_down, d_Tower_blocked_down := PySem.W.fnOf "blocked_down" "Tower.blocked_down" (defArgs s_Tower_blocked_down) (defBody s_Tower_blocked_down) (defScope s_Tower_blocked_down) .none kV_Tower_blocked_down dc_Tower_blocked_down pm_Tower_blocked_down an_Tower_blocked_down cd_Tower_blocked_down ct_Tower_blocked_down, f_Tower_blocked_up := f_Tower_blocked_up, d_Tower_blocked_up := PySem.W.fnOf "blocked_up" "Tower.blocked_up" (defArgs s_Tower_blocked_up) (defBody s_Tower_blocked_up) (defScope s_Tower_blocked_up) .none kV_Tower_blocked_up dc_Tower_blocked_up pm_Tower_blocked_up an_Tower_blocked_up cd_Tower_blocked_up ct_Tower_blocked_up, f_law_pick := f_law_pick, d_law_pick := PySem.W.fnOf "_law_pick" "_law_pick" (defArgs s_law_pick) (defBody s_law_pick) (defScope s_law_pick) .none kV_law_pick dc_law_pick pm_law_pick an_law_pick cd_law_pick ct_law_pick, f_law_is_integer := f_law_is_integer, d_law_is_integer := PySem.W.fnOf "_law_is_integer" "_law_is_integer" (defArgs s_law_is_integer) (defBody s_law_is_integer) (defScope s_law_is_integer) .none kV_law_is_integer dc_law_is_integer pm_law_is_integer an_law_is_integer cd_law_is_integer ct_law_is_integer, f_law_word := f_law_word, d_law_word := PySem.W.fnOf "_law_word" "_law_word" (defArgs s_law_word) (defBody s_law_word) (defScope s_law_word) .none kV_law_word dc_law_word pm_law_word an_law_word cd_law_word ct_law_word, f_law_fresh := f_law_fresh, d_law_fresh := PySem.W.fnOf "_law_fresh" "_law_fresh" (defArgs s_law_fresh) (defBody s_law_fresh) (defScope s_law_fresh) .none kV_law_fresh dc_law_fresh pm_law_fresh an_law_fresh cd_law_fresh ct_law_fresh, f_law_find := f_law_find, d_law_find := PySem.W.fnOf "_law_find" "_law_find" (defArgs s_law_find) (defBody s_law_find) (defScope s_law_find) .none kV_law_find dc_law_find pm_law_find an_law_find cd_law_find ct_law_find, f_law_get := f_law_get, d_law_get := PySem.W.fnOf "_law_get" "_law_get" (defArgs s_law_get) (defBody s_law_get) (defScope s_law_get) .none kV_law_get dc_law_get pm_law_get an_law_get cd_law_get ct_law_get, f_law_set := f_law_set, d_law_set := PySem.W.fnOf "_law_set" "_law_set" (defArgs s_law_set) (defBody s_law_set) (defScope s_law_set) .none kV_law_set dc_law_set pm_law_set an_law_set cd_law_set ct_law_set, f_law_down := f_law_down, d_law_down := PySem.W.fnOf "_law_down" "_law_down" (defArgs s_law_down) (defBody s_law_down) (defScope s_law_down) .none kV_law_down dc_law_down pm_law_down an_law_down cd_law_down ct_law_down, f_law_up := f_law_up, d_law_up := PySem.W.fnOf "_law_up" "_law_up" (defArgs s_law_up) (defBody s_law_up) (defScope s_law_up) .none kV_law_up dc_law_up pm_law_up an_law_up cd_law_up ct_law_up, f_law_reads := f_law_reads, d_law_reads := PySem.W.fnOf "_law_reads" "_law_reads" (defArgs s_law_reads) (defBody s_law_reads) (defScope s_law_reads) .none kV_law_reads dc_law_reads pm_law_reads an_law_reads cd_law_reads ct_law_reads, f_law_deed := f_law_deed, d_law_deed := PySem.W.fnOf "_law_deed" "_law_deed" (defArgs s_law_deed) (defBody s_law_deed) (defScope s_law_deed) .none kV_law_deed dc_law_deed pm_law_deed an_law_deed cd_law_deed ct_law_deed, f_law := fa, d_law := PySem.W.fnOf "law" "law" (defArgs s_law) (defBody s_law) (defScope s_law) .none kV_law dc_law pm_law an_law cd_law ct_law, t_FIRST_IN := t_FIRST_IN, t_FIRST_LOCAL := t_FIRST_LOCAL, t_FIRST_OUT := t_FIRST_OUT, C_Tower := C_Tower }
  have T : Txt K mg a := {
    g_empty_view := PySem.W.mg_of X G a_empty_view,
    F_empty_view := fun_mk (st := s_empty_view) l_empty_view c_empty_view k_empty_view,
    k_empty_view := k_empty_view,
    bd_empty_view := (fun_mk (st := s_empty_view) l_empty_view c_empty_view k_empty_view).binds (ps := []) fun _ _ _ _ _ _ us hl => match us, hl with | [], _ => rfl,
    g_locals_and_ins := PySem.W.mg_of X G a_locals_and_ins,
    F_locals_and_ins := fun_mk (st := s_locals_and_ins) l_locals_and_ins c_locals_and_ins k_locals_and_ins,
    k_locals_and_ins := k_locals_and_ins,
    bd_locals_and_ins := (fun_mk (st := s_locals_and_ins) l_locals_and_ins c_locals_and_ins k_locals_and_ins).binds (ps := ["view"]) fun _ _ _ _ _ _ us hl => match us, hl with | [_], _ => rfl,
    g_view_below := PySem.W.mg_of X G a_view_below,
    F_view_below := fun_mk (st := s_view_below) l_view_below c_view_below k_view_below,
    k_view_below := k_view_below,
    bd_view_below := (fun_mk (st := s_view_below) l_view_below c_view_below k_view_below).binds (ps := ["view"]) fun _ _ _ _ _ _ us hl => match us, hl with | [_], _ => rfl,
    g_view_above := PySem.W.mg_of X G a_view_above,
    F_view_above := fun_mk (st := s_view_above) l_view_above c_view_above k_view_above,
    k_view_above := k_view_above,
    bd_view_above := (fun_mk (st := s_view_above) l_view_above c_view_above k_view_above).binds (ps := ["view", "words"]) fun _ _ _ _ _ _ us hl => match us, hl with | [_, _], _ => rfl,
    F_Tower___init__ := fun_mk (st := s_Tower___init__) l_Tower___init__ c_Tower___init__ k_Tower___init__,
    k_Tower___init__ := k_Tower___init__,
    bd_Tower___init__ := (fun_mk (st := s_Tower___init__) l_Tower___init__ c_Tower___init__ k_Tower___init__).binds (ps := ["self"]) fun _ _ _ _ _ _ us hl => match us, hl with | [_], _ => rfl,
    F_Tower_read := fun_mk (st := s_Tower_read) l_Tower_read c_Tower_read k_Tower_read,
    k_Tower_read := k_Tower_read,
    bd_Tower_read := (fun_mk (st := s_Tower_read) l_Tower_read c_Tower_read k_Tower_read).binds (ps := ["self", "number"]) fun _ _ _ _ _ _ us hl => match us, hl with | [_, _], _ => rfl,
    F_Tower_write := fun_mk (st := s_Tower_write) l_Tower_write c_Tower_write k_Tower_write,
    k_Tower_write := k_Tower_write,
    bd_Tower_write := (fun_mk (st := s_Tower_write) l_Tower_write c_Tower_write k_Tower_write).binds (ps := ["self", "number", "word"]) fun _ _ _ _ _ _ us hl => match us, hl with | [_, _, _], _ => rfl,
    F_Tower_shift_down := fun_mk (st := s_Tower_shift_down) l_Tower_shift_down c_Tower_shift_down k_Tower_shift_down,
    k_Tower_shift_down := k_Tower_shift_down,
    bd_Tower_shift_down := (fun_mk (st := s_Tower_shift_down) l_Tower_shift_down c_Tower_shift_down k_Tower_shift_down).binds (ps := ["self"]) fun _ _ _ _ _ _ us hl => match us, hl with | [_], _ => rfl,
    F_Tower_shift_up := fun_mk (st := s_Tower_shift_up) l_Tower_shift_up c_Tower_shift_up k_Tower_shift_up,
    k_Tower_shift_up := k_Tower_shift_up,
    bd_Tower_shift_up := (fun_mk (st := s_Tower_shift_up) l_Tower_shift_up c_Tower_shift_up k_Tower_shift_up).binds (ps := ["self"]) fun _ _ _ _ _ _ us hl => match us, hl with | [_], _ => rfl,
    F_Tower_blocked_down := fun_mk (st := s_Tower_blocked_down) l_Tower_blocked_down c_Tower_blocked_down k_Tower_blocked_down,
    k_Tower_blocked_down := k_Tower_blocked_down,
    bd_Tower_blocked_down := (fun_mk (st := s_Tower_blocked_down) l_Tower_blocked_down c_Tower_blocked_down k_Tower_blocked_down).binds (ps := ["self"]) fun _ _ _ _ _ _ us hl => match us, hl with | [_], _ => rfl,
    F_Tower_blocked_up := fun_mk (st := s_Tower_blocked_up) l_Tower_blocked_up c_Tower_blocked_up k_Tower_blocked_up,
    k_Tower_blocked_up := k_Tower_blocked_up,
    bd_Tower_blocked_up := (fun_mk (st := s_Tower_blocked_up) l_Tower_blocked_up c_Tower_blocked_up k_Tower_blocked_up).binds (ps := ["self"]) fun _ _ _ _ _ _ us hl => match us, hl with | [_], _ => rfl,
    g__law_pick := PySem.W.mg_of X G a_law_pick,
    F__law_pick := fun_mk (st := s_law_pick) l_law_pick c_law_pick k_law_pick,
    k__law_pick := k_law_pick,
    bd__law_pick := (fun_mk (st := s_law_pick) l_law_pick c_law_pick k_law_pick).binds (ps := ["state", "limit"]) fun _ _ _ _ _ _ us hl => match us, hl with | [_, _], _ => rfl,
    g__law_is_integer := PySem.W.mg_of X G a_law_is_integer,
    F__law_is_integer := fun_mk (st := s_law_is_integer) l_law_is_integer c_law_is_integer k_law_is_integer,
    k__law_is_integer := k_law_is_integer,
    bd__law_is_integer := (fun_mk (st := s_law_is_integer) l_law_is_integer c_law_is_integer k_law_is_integer).binds (ps := ["actual"]) fun _ _ _ _ _ _ us hl => match us, hl with | [_], _ => rfl,
    g__law_word := PySem.W.mg_of X G a_law_word,
    F__law_word := fun_mk (st := s_law_word) l_law_word c_law_word k_law_word,
    k__law_word := k_law_word,
    bd__law_word := (fun_mk (st := s_law_word) l_law_word c_law_word k_law_word).binds (ps := ["state"]) fun _ _ _ _ _ _ us hl => match us, hl with | [_], _ => rfl,
    g__law_fresh := PySem.W.mg_of X G a_law_fresh,
    F__law_fresh := fun_mk (st := s_law_fresh) l_law_fresh c_law_fresh k_law_fresh,
    k__law_fresh := k_law_fresh,
    bd__law_fresh := (fun_mk (st := s_law_fresh) l_law_fresh c_law_fresh k_law_fresh).binds (ps := []) fun _ _ _ _ _ _ us hl => match us, hl with | [], _ => rfl,
    g__law_find := PySem.W.mg_of X G a_law_find,
    F__law_find := fun_mk (st := s_law_find) l_law_find c_law_find k_law_find,
    k__law_find := k_law_find,
    bd__law_find := (fun_mk (st := s_law_find) l_law_find c_law_find k_law_find).binds (ps := ["model", "number"]) fun _ _ _ _ _ _ us hl => match us, hl with | [_, _], _ => rfl,
    g__law_get := PySem.W.mg_of X G a_law_get,
    F__law_get := fun_mk (st := s_law_get) l_law_get c_law_get k_law_get,
    k__law_get := k_law_get,
    bd__law_get := (fun_mk (st := s_law_get) l_law_get c_law_get k_law_get).binds (ps := ["model", "number"]) fun _ _ _ _ _ _ us hl => match us, hl with | [_, _], _ => rfl,
    g__law_set := PySem.W.mg_of X G a_law_set,
    F__law_set := fun_mk (st := s_law_set) l_law_set c_law_set k_law_set,
    k__law_set := k_law_set,
    bd__law_set := (fun_mk (st := s_law_set) l_law_set c_law_set k_law_set).binds (ps := ["model", "number", "word"]) fun _ _ _ _ _ _ us hl => match us, hl with | [_, _, _], _ => rfl,
    g__law_down := PySem.W.mg_of X G a_law_down,
    F__law_down := fun_mk (st := s_law_down) l_law_down c_law_down k_law_down,
    k__law_down := k_law_down,
    bd__law_down := (fun_mk (st := s_law_down) l_law_down c_law_down k_law_down).binds (ps := ["model"]) fun _ _ _ _ _ _ us hl => match us, hl with | [_], _ => rfl,
    g__law_up := PySem.W.mg_of X G a_law_up,
    F__law_up := fun_mk (st := s_law_up) l_law_up c_law_up k_law_up,
    k__law_up := k_law_up,
    bd__law_up := (fun_mk (st := s_law_up) l_law_up c_law_up k_law_up).binds (ps := ["model"]) fun _ _ _ _ _ _ us hl => match us, hl with | [_], _ => rfl,
    g__law_reads := PySem.W.mg_of X G a_law_reads,
    F__law_reads := fun_mk (st := s_law_reads) l_law_reads c_law_reads k_law_reads,
    k__law_reads := k_law_reads,
    bd__law_reads := (fun_mk (st := s_law_reads) l_law_reads c_law_reads k_law_reads).binds (ps := ["tower", "model"]) fun _ _ _ _ _ _ us hl => match us, hl with | [_, _], _ => rfl,
    g__law_deed := PySem.W.mg_of X G a_law_deed,
    F__law_deed := fun_mk (st := s_law_deed) l_law_deed c_law_deed k_law_deed,
    k__law_deed := k_law_deed,
    bd__law_deed := (fun_mk (st := s_law_deed) l_law_deed c_law_deed k_law_deed).binds (ps := ["state", "tower", "model"]) fun _ _ _ _ _ _ us hl => match us, hl with | [_, _, _], _ => rfl,
    g_law := PySem.W.mg_of X G a_law,
    F_law := fun_mk (st := s_law) l_law c_law k_law,
    k_law := k_law,
    bd_law := (fun_mk (st := s_law) l_law c_law k_law).binds (ps := ["script"]) fun _ _ _ _ _ _ us hl => match us, hl with | [_], _ => rfl,
    g_FIRST_IN := PySem.W.mg_of X G a_FIRST_IN,
    g_FIRST_LOCAL := PySem.W.mg_of X G a_FIRST_LOCAL,
    g_FIRST_OUT := PySem.W.mg_of X G a_FIRST_OUT,
    b_bool := PySem.W.mg_none_of X G z_bool,
    b_int := PySem.W.mg_none_of X G z_int,
    b_isinstance := PySem.W.mg_none_of X G z_isinstance,
    b_len := PySem.W.mg_none_of X G z_len,
    b_range := PySem.W.mg_none_of X G z_range,
    g_Tower := PySem.W.mg_of X G aC_Tower,
    cl_Tower := ⟨pg_Tower, hd_Tower, po_Tower, sa_Tower⟩,
    mk_Tower := ⟨mk_Tower, a_Tower___init__, i_Tower___init__, kC_Tower⟩,
    n_Tower_depth := n_Tower_depth,
    n_Tower_spills := n_Tower_spills,
    n_Tower_fills := n_Tower_fills,
    n_Tower__view := n_Tower__view,
    n_Tower__above := n_Tower__above,
    m_Tower_read := ⟨a_Tower_read, i_Tower_read, k_Tower_read⟩,
    m_Tower_write := ⟨a_Tower_write, i_Tower_write, k_Tower_write⟩,
    m_Tower_shift_down := ⟨a_Tower_shift_down, i_Tower_shift_down, k_Tower_shift_down⟩,
    m_Tower_shift_up := ⟨a_Tower_shift_up, i_Tower_shift_up, k_Tower_shift_up⟩,
    m_Tower_blocked_down := ⟨a_Tower_blocked_down, i_Tower_blocked_down, k_Tower_blocked_down⟩,
    m_Tower_blocked_up := ⟨a_Tower_blocked_up, i_Tower_blocked_up, k_Tower_blocked_up⟩ }
  exact ⟨a.d_law, fun s v => .of_eq rfl, fun base _ _ => ok_law T⟩
theorem walk {l : PySem.W.OpenLaw} {q : Program} {loose : List Str} {XP : (Str → Option Value) → Heap → Prop} {YP : World → Heap → Prop} {d : DefRec} {K : Params → PySem.W.Frag} (hn : l.most = some 63) (hdf : d.params.defaults = [])
    (hY : ∀ (w : World) (h : Heap), YP w h → (K w.params).In h)
    (F : ∀ (w : World) (mg : Str → Option Value) (fa : Addr) (h : Heap), (K w.params).In h → h.Ns mainGlobals mg → mg d.name = some (.ref fa) →
      ∃ fd : FuncData, (∀ (s : Shared) (u : Value), BindsTo s fd ⟨[u], []⟩ [("script", u)]) ∧ ∀ base : Heap, (K w.params).In base → base.Ns mainGlobals mg → FnOk l.prog w (K w.params) mg base CX0 8 fa fd ["script"] (spLaw (K w.params))) :
    PySem.W.WalkO q loose XP YP l.row.toRowW d [] (fun f vs => PySem.call f vs) :=
  L2.walk_of (n := 63) (k := 8) (x := "script") (CX := fun _ => CX0) (sp := fun w => spLaw (K w.params)) hn (by decide) hdf ⟨rfl, by decide, by decide⟩ hY F (fun _ _ a ns hl _ hS => ⟨a, ns, rfl, hS, hl, fun _ => rfl⟩) fun _ _ _ _ _ z => z

end My
open PySem PySem.W PyProof.Rows
set_option maxRecDepth 100000 in
set_option maxHeartbeats 0 in
theorem PySem.Challenge.cw_windowada_k66_tower_holds : PySem.Challenge.rw_windowada_k66_tower.Holds := by
  w_on; o_law; k_head; (case hw => w_witness2)
  k_fill
  refine My.walk (l := PySem.Challenge.rw_windowada_k66_tower) rfl rfl (fun w h Y => PySem.W.kIn_of Y) ?F
  case F =>
    intro w mg fa h KX G hmg
    refine' My.all_mk KX G hmg ?aC_Tower ?pg_Tower ?hd_Tower ?po_Tower ?sa_Tower ?mk_Tower ?kC_Tower ?n_Tower_depth ?n_Tower_spills ?n_Tower_fills ?n_Tower__view ?n_Tower__above ?a_empty_view ?l_empty_view ?c_empty_view ?k_empty_view ?a_locals_and_ins ?l_locals_and_ins ?c_locals_and_ins ?k_locals_and_ins ?a_view_below ?l_view_below ?c_view_below ?k_view_below ?a_view_above ?l_view_above ?c_view_above ?k_view_above ?a_Tower___init__ ?i_Tower___init__ ?l_Tower___init__ ?c_Tower___init__ ?k_Tower___init__ ?a_Tower_read ?i_Tower_read ?l_Tower_read ?c_Tower_read ?k_Tower_read ?a_Tower_write ?i_Tower_write ?l_Tower_write ?c_Tower_write ?k_Tower_write ?a_Tower_shift_down ?i_Tower_shift_down ?l_Tower_shift_down ?c_Tower_shift_down ?k_Tower_shift_down ?a_Tower_shift_up ?i_Tower_shift_up ?l_Tower_shift_up ?c_Tower_shift_up ?k_Tower_shift_up ?a_Tower_blocked_down ?i_Tower_blocked_down ?l_Tower_blocked_down ?c_Tower_blocked_down ?k_Tower_blocked_down ?a_Tower_blocked_up ?i_Tower_blocked_up ?l_Tower_blocked_up ?c_Tower_blocked_up ?k_Tower_blocked_up ?a_law_pick ?l_law_pick ?c_law_pick ?k_law_pick ?a_law_is_integer ?l_law_is_integer ?c_law_is_integer ?k_law_is_integer ?a_law_word ?l_law_word ?c_law_word ?k_law_word ?a_law_fresh ?l_law_fresh ?c_law_fresh ?k_law_fresh ?a_law_find ?l_law_find ?c_law_find ?k_law_find ?a_law_get ?l_law_get ?c_law_get ?k_law_get ?a_law_set ?l_law_set ?c_law_set ?k_law_set ?a_law_down ?l_law_down ?c_law_down ?k_law_down ?a_law_up ?l_law_up ?c_law_up ?k_law_up ?a_law_reads ?l_law_reads ?c_law_reads ?k_law_reads ?a_law_deed ?l_law_deed ?c_law_deed ?k_law_deed ?a_law ?l_law ?c_law ?k_law ?a_FIRST_IN ?a_FIRST_LOCAL ?a_FIRST_OUT ?z_bool ?z_int ?z_isinstance ?z_len ?z_range
    (case aC_Tower => k_is)
    (case pg_Tower => k_is)
    (case hd_Tower => k_is)
    (case po_Tower => k_is)
    (case sa_Tower => k_is)
    (case mk_Tower => k_is)
    (case kC_Tower => k_is)
    (case n_Tower_depth => k_is)
    (case n_Tower_spills => k_is)
    (case n_Tower_fills => k_is)
    (case n_Tower__view => k_is)
    (case n_Tower__above => k_is)
    (case a_empty_view => k_is)
    (case l_empty_view => k_is)
    (case c_empty_view => k_is)
    (case k_empty_view => k_is)
    (case a_locals_and_ins => k_is)
    (case l_locals_and_ins => k_is)
    (case c_locals_and_ins => k_is)
    (case k_locals_and_ins => k_is)
    (case a_view_below => k_is)
    (case l_view_below => k_is)
    (case c_view_below => k_is)
    (case k_view_below => k_is)
    (case a_view_above => k_is)
    (case l_view_above => k_is)
    (case c_view_above => k_is)
    (case k_view_above => k_is)
    (case a_Tower___init__ => k_is)
    (case i_Tower___init__ => first | rfl | k_is)
    (case l_Tower___init__ => k_is)
    (case c_Tower___init__ => k_is)
    (case k_Tower___init__ => k_is)
    (case a_Tower_read => k_is)
    (case i_Tower_read => first | rfl | k_is)
    (case l_Tower_read => k_is)
    (case c_Tower_read => k_is)
    (case k_Tower_read => k_is)
    (case a_Tower_write => k_is)
    (case i_Tower_write => first | rfl | k_is)
    (case l_Tower_write => k_is)
    (case c_Tower_write => k_is)
    (case k_Tower_write => k_is)
    (case a_Tower_shift_down => k_is)
    (case i_Tower_shift_down => first | rfl | k_is)
    (case l_Tower_shift_down => k_is)
    (case c_Tower_shift_down => k_is)
    (case k_Tower_shift_down => k_is)
    (case a_Tower_shift_up => k_is)
    (case i_Tower_shift_up => first | rfl | k_is)
    (case l_Tower_shift_up => k_is)
    (case c_Tower_shift_up => k_is)
    (case k_Tower_shift_up => k_is)
    (case a_Tower_blocked_down => k_is)
    (case i_Tower_blocked_down => first | rfl | k_is)
    (case l_Tower_blocked_down => k_is)
    (case c_Tower_blocked_down => k_is)
    (case k_Tower_blocked_down => k_is)
    (case a_Tower_blocked_up => k_is)
    (case i_Tower_blocked_up => first | rfl | k_is)
    (case l_Tower_blocked_up => k_is)
    (case c_Tower_blocked_up => k_is)
    (case k_Tower_blocked_up => k_is)
    (case a_law_pick => k_is)
    (case l_law_pick => k_is)
    (case c_law_pick => k_is)
    (case k_law_pick => k_is)
    (case a_law_is_integer => k_is)
    (case l_law_is_integer => k_is)
    (case c_law_is_integer => k_is)
    (case k_law_is_integer => k_is)
    (case a_law_word => k_is)
    (case l_law_word => k_is)
    (case c_law_word => k_is)
    (case k_law_word => k_is)
    (case a_law_fresh => k_is)
    (case l_law_fresh => k_is)
    (case c_law_fresh => k_is)
    (case k_law_fresh => k_is)
    (case a_law_find => k_is)
    (case l_law_find => k_is)
    (case c_law_find => k_is)
    (case k_law_find => k_is)
    (case a_law_get => k_is)
    (case l_law_get => k_is)
    (case c_law_get => k_is)
    (case k_law_get => k_is)
    (case a_law_set => k_is)
    (case l_law_set => k_is)
    (case c_law_set => k_is)
    (case k_law_set => k_is)
    (case a_law_down => k_is)
    (case l_law_down => k_is)
    (case c_law_down => k_is)
    (case k_law_down => k_is)
    (case a_law_up => k_is)
    (case l_law_up => k_is)
    (case c_law_up => k_is)
    (case k_law_up => k_is)
    (case a_law_reads => k_is)
    (case l_law_reads => k_is)
    (case c_law_reads => k_is)
    (case k_law_reads => k_is)
    (case a_law_deed => k_is)
    (case l_law_deed => k_is)
    (case c_law_deed => k_is)
    (case k_law_deed => k_is)
    (case a_law => k_is)
    (case l_law => k_is)
    (case c_law => k_is)
    (case k_law => k_is)
    (case a_FIRST_IN => k_is)
    (case a_FIRST_LOCAL => k_is)
    (case a_FIRST_OUT => k_is)
    (case z_bool => k_is)
    (case z_int => k_is)
    (case z_isinstance => k_is)
    (case z_len => k_is)
    (case z_range => k_is)

